/-
  Day forms: year by year.
-/
import Derived.Test.YtljbgkfoljjgbaaDoorMWorksdae
namespace Go.Proofs.YtljbgkfoljjgbaaDoor
open Go.Ax Go.Lib
set_option linter.all false
set_option maxHeartbeats 8000000
attribute [local congr] cond_cong bind_cong onI_cong onB_cong onS_cong onN_cong onL_cong

theorem on_any {y m k w d : Int} (hy : -2000000000 ≤ y ∧ y ≤ 2000000000) (hm : 1 ≤ m ∧ m ≤ 12) (hg : Good k w d) : ∃ x, F_dayform_On [.i y, .i m, .i k, .i w, .i d] = some [.i x, .i (if ln y m < d then 4 else 0)] := by
  have hl := ln_bound y m
  obtain ⟨hg⟩ := hg
  rcases hg with ⟨rfl, rfl, hg⟩ | ⟨rfl, hg1, hg2, rfl⟩ | ⟨rfl, hw1, hw2, hg⟩ | ⟨rfl, hw1, hw2, hg⟩
  · rw [on_fixed hy hm hg]
    by_cases h : ln y m < d
    · rw [if_pos h, if_pos h]; exact ⟨_, rfl⟩
    · rw [if_neg h, if_neg h]; exact ⟨_, rfl⟩
  · rw [on_last hy hm ⟨hg1, hg2⟩, if_neg (by omega)]; exact ⟨_, rfl⟩
  · rw [on_from hy hm ⟨hw1, hw2⟩ hg]
    by_cases h : ln y m < d
    · rw [if_pos h, if_pos h]; exact ⟨_, rfl⟩
    · rw [if_neg h, if_neg h]; exact ⟨_, rfl⟩
  · rw [on_to hy hm ⟨hw1, hw2⟩ hg]
    by_cases h : ln y m < d
    · rw [if_pos h, if_pos h]; exact ⟨_, rfl⟩
    · rw [if_neg h, if_neg h]; exact ⟨_, rfl⟩
theorem check_any {k w d : Int} (hg : Good k w d) : F_dayform_Check [.i k, .i w, .i d] = some [.i 0] := by
  obtain ⟨hg⟩ := hg
  rcases hg with ⟨rfl, rfl, hg⟩ | ⟨rfl, hg1, hg2, rfl⟩ | ⟨rfl, hw1, hw2, hg⟩ | ⟨rfl, hw1, hw2, hg⟩
  · exact check_fixed hg
  · exact check_last ⟨hg1, hg2⟩
  · exact check_from ⟨hw1, hw2⟩ hg
  · exact check_to ⟨hw1, hw2⟩ hg
theorem always_true {a b m k w d : Int} (hm : 1 ≤ m ∧ m ≤ 12) (hg : Good k w d) (h : d ≤ ln 2023 m) : F_dayform_Always [.i a, .i b, .i m, .i k, .i w, .i d] = some [.b true] := by
  have hk := check_any hg
  have hn := len_at (y := 2023) hm
  unfold F_dayform_Always
  by_cases hb : 1048576 ≤ b
  · simp (disch := omega) only [onI_c, onS_c, onB_c, onN_c, onL_c, Option.bind_some, Option.map_some, cond_true, cond_false, ↓onI_c, ↓onS_c, ↓onB_c, ↓onN_c, ↓onL_c, ↓Option.bind_some, ↓cond_true, ↓cond_false, decide_eq_true, decide_eq_false, Bool.not_true, Bool.not_false, Int.toNat_natCast, List.length_append, List.length_cons, List.length_nil, List.drop_zero, Nat.zero_add, Nat.add_zero, decT, decF, bneI_t, bneI_f, hk, hn]
  · simp (disch := omega) only [onI_c, onS_c, onB_c, onN_c, onL_c, Option.bind_some, Option.map_some, cond_true, cond_false, ↓onI_c, ↓onS_c, ↓onB_c, ↓onN_c, ↓onL_c, ↓Option.bind_some, ↓cond_true, ↓cond_false, decide_eq_true, decide_eq_false, Bool.not_true, Bool.not_false, Int.toNat_natCast, List.length_append, List.length_cons, List.length_nil, List.drop_zero, Nat.zero_add, Nat.add_zero, decT, decF, bneI_t, bneI_f, hk, hn]
theorem always_ever {a b m k w d : Int} (hm : 1 ≤ m ∧ m ≤ 12) (hg : Good k w d) (h : ln 2023 m < d) (hb : 1048576 ≤ b) : F_dayform_Always [.i a, .i b, .i m, .i k, .i w, .i d] = some [.b false] := by
  have hk := check_any hg
  have hn := len_at (y := 2023) hm
  unfold F_dayform_Always
  by_cases hab : b < a <;> by_cases h2 : m = 2 <;> by_cases h29 : d = 29 <;> simp (disch := omega) only [onI_c, onS_c, onB_c, onN_c, onL_c, Option.bind_some, Option.map_some, cond_true, cond_false, ↓onI_c, ↓onS_c, ↓onB_c, ↓onN_c, ↓onL_c, ↓Option.bind_some, ↓cond_true, ↓cond_false, decide_eq_true, decide_eq_false, Bool.not_true, Bool.not_false, Int.toNat_natCast, List.length_append, List.length_cons, List.length_nil, List.drop_zero, Nat.zero_add, Nat.add_zero, decT, decF, bneI_t, bneI_f, hk, hn]
theorem always_other {a b m k w d : Int} (hm : 1 ≤ m ∧ m ≤ 12) (hg : Good k w d) (h : ln 2023 m < d) (hb : b < 1048576) (hab : a ≤ b) : F_dayform_Always [.i a, .i b, .i m, .i k, .i w, .i d] = some [.b (if m = 2 ∧ d = 29 ∧ a = b then lp a else false)] := by
  have hk := check_any hg
  have hn := len_at (y := 2023) hm
  unfold F_dayform_Always
  by_cases h2 : m = 2
  · by_cases h29 : d = 29
    · by_cases he : a = b
      · rw [if_pos ⟨h2, h29, he⟩]
        simp (disch := omega) only [onI_c, onS_c, onB_c, onN_c, onL_c, Option.bind_some, Option.map_some, cond_true, cond_false, ↓onI_c, ↓onS_c, ↓onB_c, ↓onN_c, ↓onL_c, ↓Option.bind_some, ↓cond_true, ↓cond_false, decide_eq_true, decide_eq_false, Bool.not_true, Bool.not_false, Int.toNat_natCast, List.length_append, List.length_cons, List.length_nil, List.drop_zero, Nat.zero_add, Nat.add_zero, decT, decF, bneI_t, bneI_f, hk, hn, leap_at]
      · rw [if_neg (fun q => he q.2.2)]
        simp (disch := omega) only [onI_c, onS_c, onB_c, onN_c, onL_c, Option.bind_some, Option.map_some, cond_true, cond_false, ↓onI_c, ↓onS_c, ↓onB_c, ↓onN_c, ↓onL_c, ↓Option.bind_some, ↓cond_true, ↓cond_false, decide_eq_true, decide_eq_false, Bool.not_true, Bool.not_false, Int.toNat_natCast, List.length_append, List.length_cons, List.length_nil, List.drop_zero, Nat.zero_add, Nat.add_zero, decT, decF, bneI_t, bneI_f, hk, hn]
    · rw [if_neg (fun q => h29 q.2.1)]
      simp (disch := omega) only [onI_c, onS_c, onB_c, onN_c, onL_c, Option.bind_some, Option.map_some, cond_true, cond_false, ↓onI_c, ↓onS_c, ↓onB_c, ↓onN_c, ↓onL_c, ↓Option.bind_some, ↓cond_true, ↓cond_false, decide_eq_true, decide_eq_false, Bool.not_true, Bool.not_false, Int.toNat_natCast, List.length_append, List.length_cons, List.length_nil, List.drop_zero, Nat.zero_add, Nat.add_zero, decT, decF, bneI_t, bneI_f, hk, hn]
  · rw [if_neg (fun q => h2 q.1)]
    simp (disch := omega) only [onI_c, onS_c, onB_c, onN_c, onL_c, Option.bind_some, Option.map_some, cond_true, cond_false, ↓onI_c, ↓onS_c, ↓onB_c, ↓onN_c, ↓onL_c, ↓Option.bind_some, ↓cond_true, ↓cond_false, decide_eq_true, decide_eq_false, Bool.not_true, Bool.not_false, Int.toNat_natCast, List.length_append, List.length_cons, List.length_nil, List.drop_zero, Nat.zero_add, Nat.add_zero, decT, decF, bneI_t, bneI_f, hk, hn]
/-- There is the day in each of some years. -/
def allY (m d : Int) : Int → Nat → Bool
  | _, 0 => true
  | z, n + 1 => (!decide (ln z m < d)) && allY m d (z + 1) n
theorem each_run {m a u k w d : Int} (hm : 1 ≤ m ∧ m ≤ 12) (hg : Good k w d) (hu : u ≤ 2000000000) : ∀ (n : Nat) (z : Int) (A : Bool), z + n = u + 1 → -2000000000 ≤ z →
    iter F_law02_DayformEach_L0 [.i m, .i a, .i u, .b A, .i z, .i k, .i w, .i d] = iter F_law02_DayformEach_L0 [.i m, .i a, .i u, .b (A && allY m d z n), .i (u + 1), .i k, .i w, .i d]
  | 0, z, A, hz, _ => by
    rw [show z = u + 1 by omega]; simp [allY]
  | n + 1, z, A, hz, h0 => by
    obtain ⟨x, hx⟩ := on_any (y := z) ⟨h0, by omega⟩ hm hg
    have ih := each_run (a := a) hm hg hu n (z + 1) (A && !decide (ln z m < d)) (by omega) (by omega)
    rw [Bool.and_assoc] at ih
    show _ = iter F_law02_DayformEach_L0 [.i m, .i a, .i u, .b (A && ((!decide (ln z m < d)) && allY m d (z + 1) n)), .i (u + 1), .i k, .i w, .i d]
    rw [← ih]
    apply iter_next
    unfold F_law02_DayformEach_L0
    by_cases hl : ln z m < d
    · rw [if_pos hl] at hx
      rw [decide_eq_true hl]
      cases A <;> simp (disch := omega) only [onI_c, onS_c, onB_c, onN_c, onL_c, Option.bind_some, Option.map_some, cond_true, cond_false, ↓onI_c, ↓onS_c, ↓onB_c, ↓onN_c, ↓onL_c, ↓Option.bind_some, ↓cond_true, ↓cond_false, decide_eq_true, decide_eq_false, Bool.not_true, Bool.not_false, Int.toNat_natCast, List.length_append, List.length_cons, List.length_nil, List.drop_zero, Nat.zero_add, Nat.add_zero, decT, decF, bneI_t, bneI_f, hx, i64_in, Bool.and_false, Bool.false_and]
    · rw [if_neg hl] at hx
      rw [decide_eq_false hl]
      cases A <;> simp (disch := omega) only [onI_c, onS_c, onB_c, onN_c, onL_c, Option.bind_some, Option.map_some, cond_true, cond_false, ↓onI_c, ↓onS_c, ↓onB_c, ↓onN_c, ↓onL_c, ↓Option.bind_some, ↓cond_true, ↓cond_false, decide_eq_true, decide_eq_false, Bool.not_true, Bool.not_false, Int.toNat_natCast, List.length_append, List.length_cons, List.length_nil, List.drop_zero, Nat.zero_add, Nat.add_zero, decT, decF, bneI_t, bneI_f, hx, i64_in, Bool.and_true, Bool.true_and, Bool.false_and]
theorem ln_leap {z m : Int} : ln z m = if m = 2 ∧ lp z = true then 29 else ln 2001 m := by
  have : lp 2001 = false := rfl
  unfold ln
  rw [this]
  by_cases h : m = 2
  · rw [if_pos h, if_pos h]
    cases lp z <;> simp [h]
  · simp [h]
theorem ln_2001 (m : Int) : ln 2001 m = ln 2023 m := by
  have a : lp 2001 = false := rfl
  have b : lp 2023 = false := rfl
  unfold ln; rw [a, b]
theorem ln_ge (z m : Int) : ln 2001 m ≤ ln z m := by
  rw [ln_leap (z := z)]
  split
  · rename_i h
    have a : lp 2001 = false := rfl
    unfold ln; rw [if_pos h.1, a]; decide
  · omega
theorem lp_two {z : Int} (h : lp z = true) : lp (z + 1) = false := by
  unfold lp at *
  simp at h ⊢
  omega
theorem allY_true {m d : Int} (h : d ≤ ln 2001 m) : ∀ (n : Nat) (z : Int), allY m d z n = true
  | 0, z => rfl
  | n + 1, z => by
    have := ln_ge z m
    unfold allY
    rw [decide_eq_false (by omega), allY_true h n]; rfl
theorem allY_some {m d z : Int} {n : Nat} (h : ln 2001 m < d) : allY m d z (n + 1) = if m = 2 ∧ d = 29 ∧ n = 0 then lp z else false := by
  have l1 := ln_leap (z := z) (m := m)
  unfold allY
  by_cases h2 : m = 2 ∧ lp z = true
  · rw [if_pos h2] at l1
    by_cases h29 : d = 29
    · rw [decide_eq_false (by omega)]
      cases n with
      | zero => rw [if_pos ⟨h2.1, h29, rfl⟩, h2.2]; rfl
      | succ n =>
        rw [if_neg (by omega)]
        have l2 := ln_leap (z := z + 1) (m := m)
        rw [if_neg (by rw [lp_two h2.2]; simp)] at l2
        unfold allY
        rw [decide_eq_true (by omega)]; rfl
    · rw [if_neg (fun q => h29 q.2.1)]
      have : 29 < d := by
        have a : lp 2001 = false := rfl
        have : ln 2001 m = 28 := by unfold ln; rw [if_pos h2.1, a]; rfl
        omega
      rw [decide_eq_true (by omega)]; rfl
  · rw [if_neg h2] at l1
    rw [decide_eq_true (by omega)]
    split
    · rename_i q
      cases hz : lp z with
      | false => rfl
      | true => exact absurd ⟨q.1, hz⟩ h2
    · rfl
theorem each_end {m a k w d : Int} {n : Nat} (hm : 1 ≤ m ∧ m ≤ 12) (hg : Good k w d) (ha : -2000000000 ≤ a) (hu : a + n ≤ 2000000000) :
    F_law02_DayformEach_L0 [.i m, .i a, .i (a + n), .b (allY m d a (n + 1)), .i (a + n + 1), .i k, .i w, .i d] = some (.inr [.b true]) := by
  have hn := len_at (y := 2001) hm
  have o := fun y hy => on_any (y := y) (m := m) hy hm hg
  obtain ⟨x1, o1⟩ := o 2001 (by omega)
  obtain ⟨x2, o2⟩ := o 2002 (by omega)
  obtain ⟨x3, o3⟩ := o 2003 (by omega)
  obtain ⟨x4, o4⟩ := o 2004 (by omega)
  obtain ⟨x5, o5⟩ := o 2005 (by omega)
  obtain ⟨x6, o6⟩ := o 2006 (by omega)
  obtain ⟨x7, o7⟩ := o 2007 (by omega)
  obtain ⟨x8, o8⟩ := o 2008 (by omega)
  obtain ⟨x9, o9⟩ := o 2009 (by omega)
  have l23 := ln_2001 m
  have bt : (true == true) = true := rfl
  have bf : (false == false) = true := rfl
  unfold F_law02_DayformEach_L0
  by_cases h : d ≤ ln 2001 m
  · have g2 := ln_ge 2002 m
    have g3 := ln_ge 2003 m
    have g4 := ln_ge 2004 m
    have g5 := ln_ge 2005 m
    have g6 := ln_ge 2006 m
    have g7 := ln_ge 2007 m
    have g8 := ln_ge 2008 m
    have g9 := ln_ge 2009 m
    rw [if_neg (by omega)] at o1 o2 o3 o4 o5 o6 o7 o8 o9
    clear g2 g3 g4 g5 g6 g7 g8 g9
    have al := fun x y => always_true (a := x) (b := y) hm hg (show d ≤ ln 2023 m by omega)
    rw [allY_true h]
    clear o
    by_cases hu2 : a + n < 1048576
    · simp (disch := omega) only [onI_c, onS_c, onB_c, onN_c, onL_c, Option.bind_some, Option.map_some, cond_true, cond_false, ↓onI_c, ↓onS_c, ↓onB_c, ↓onN_c, ↓onL_c, ↓Option.bind_some, ↓cond_true, ↓cond_false, decide_eq_true, decide_eq_false, Bool.not_true, Bool.not_false, Int.toNat_natCast, List.length_append, List.length_cons, List.length_nil, List.drop_zero, Nat.zero_add, Nat.add_zero, decT, decF, bneI_t, bneI_f, o1, o2, o3, o4, o5, o6, o7, o8, o9, al, hn, dworks_at, bt, bf]
    · simp (disch := omega) only [onI_c, onS_c, onB_c, onN_c, onL_c, Option.bind_some, Option.map_some, cond_true, cond_false, ↓onI_c, ↓onS_c, ↓onB_c, ↓onN_c, ↓onL_c, ↓Option.bind_some, ↓cond_true, ↓cond_false, decide_eq_true, decide_eq_false, Bool.not_true, Bool.not_false, Int.toNat_natCast, List.length_append, List.length_cons, List.length_nil, List.drop_zero, Nat.zero_add, Nat.add_zero, decT, decF, bneI_t, bneI_f, o1, o2, o3, o4, o5, o6, o7, o8, o9, al, hn, dworks_at, bt, bf]
  · rw [if_pos (by omega)] at o1
    have ev := always_ever (a := a) (b := 1048576) hm hg (show ln 2023 m < d by omega) (by omega)
    have al := allY_some (z := a) (n := n) (show ln 2001 m < d by omega)
    clear o
    by_cases hu2 : a + n < 1048576
    · have ao := always_other (a := a) (b := a + n) hm hg (show ln 2023 m < d by omega) hu2 (by omega)
      have e : (if m = 2 ∧ d = 29 ∧ a = a + (n : Int) then lp a else false) = allY m d a (n + 1) := by
        rw [al]
        by_cases q : m = 2 ∧ d = 29 ∧ n = 0
        · rw [if_pos q, if_pos ⟨q.1, q.2.1, by omega⟩]
        · rw [if_neg q, if_neg (by omega)]
      rw [e] at ao
      cases hA : allY m d a (n + 1) with
      | true =>
        rw [hA] at ao
        simp (disch := omega) only [onI_c, onS_c, onB_c, onN_c, onL_c, Option.bind_some, Option.map_some, cond_true, cond_false, ↓onI_c, ↓onS_c, ↓onB_c, ↓onN_c, ↓onL_c, ↓Option.bind_some, ↓cond_true, ↓cond_false, decide_eq_true, decide_eq_false, Bool.not_true, Bool.not_false, Int.toNat_natCast, List.length_append, List.length_cons, List.length_nil, List.drop_zero, Nat.zero_add, Nat.add_zero, decT, decF, bneI_t, bneI_f, o1, o2, o3, o4, o5, o6, o7, o8, o9, ao, ev, hn, dworks_at, bt, bf]
      | false =>
        rw [hA] at ao
        simp (disch := omega) only [onI_c, onS_c, onB_c, onN_c, onL_c, Option.bind_some, Option.map_some, cond_true, cond_false, ↓onI_c, ↓onS_c, ↓onB_c, ↓onN_c, ↓onL_c, ↓Option.bind_some, ↓cond_true, ↓cond_false, decide_eq_true, decide_eq_false, Bool.not_true, Bool.not_false, Int.toNat_natCast, List.length_append, List.length_cons, List.length_nil, List.drop_zero, Nat.zero_add, Nat.add_zero, decT, decF, bneI_t, bneI_f, o1, o2, o3, o4, o5, o6, o7, o8, o9, ao, ev, hn, dworks_at, bt, bf]
    · cases hA : allY m d a (n + 1) with
      | true => simp (disch := omega) only [onI_c, onS_c, onB_c, onN_c, onL_c, Option.bind_some, Option.map_some, cond_true, cond_false, ↓onI_c, ↓onS_c, ↓onB_c, ↓onN_c, ↓onL_c, ↓Option.bind_some, ↓cond_true, ↓cond_false, decide_eq_true, decide_eq_false, Bool.not_true, Bool.not_false, Int.toNat_natCast, List.length_append, List.length_cons, List.length_nil, List.drop_zero, Nat.zero_add, Nat.add_zero, decT, decF, bneI_t, bneI_f, o1, o2, o3, o4, o5, o6, o7, o8, o9, ev, hn, dworks_at, bt, bf]
      | false => simp (disch := omega) only [onI_c, onS_c, onB_c, onN_c, onL_c, Option.bind_some, Option.map_some, cond_true, cond_false, ↓onI_c, ↓onS_c, ↓onB_c, ↓onN_c, ↓onL_c, ↓Option.bind_some, ↓cond_true, ↓cond_false, decide_eq_true, decide_eq_false, Bool.not_true, Bool.not_false, Int.toNat_natCast, List.length_append, List.length_cons, List.length_nil, List.drop_zero, Nat.zero_add, Nat.add_zero, decT, decF, bneI_t, bneI_f, o1, o2, o3, o4, o5, o6, o7, o8, o9, ev, hn, dworks_at, bt, bf]
theorem law_DayformEach {a b c y m t : Int} (ha : 0 ≤ a ∧ a ≤ 255) (hb : 0 ≤ b ∧ b ≤ 255) (hc : 0 ≤ c ∧ c ≤ 255) (hy : -2147483648 ≤ y ∧ y ≤ 2147483647) (hm : 0 ≤ m ∧ m ≤ 255) (ht : 0 ≤ t ∧ t ≤ 255) : F_law02_DayformEach [.i a, .i b, .i c, .i y, .i m, .i t] = some [.b true] := by
  obtain ⟨k, w, d, hmade, hg⟩ := made_at ha hb hc
  obtain ⟨z, hyear, hz⟩ := year_at hy
  have E : i64 (1 + i64 (Int.tmod m 12)) = 1 + m % 12 := by rw [tmod_nn hm.1, i64_in (m % 12) (by omega), i64_in _ (by omega)]
  have E2 : i64 (z + i64 (Int.tmod t 12)) = z + t % 12 := by rw [tmod_nn ht.1, i64_in (t % 12) (by omega), i64_in _ (by omega)]
  have hM : 1 ≤ 1 + m % 12 ∧ 1 + m % 12 ≤ 12 := by omega
  obtain ⟨n, hn⟩ : ∃ n : Nat, (if 2000000000 < z + t % 12 then 2000000000 else z + t % 12) = z + n := ⟨((if 2000000000 < z + t % 12 then 2000000000 else z + t % 12) - z).toNat, by split <;> omega⟩
  have hn2 : z + n ≤ 2000000000 := by rw [← hn]; split <;> omega
  unfold F_law02_DayformEach
  simp only [onI_c, onB_c, Option.bind_some, hmade, hyear, E, E2, hn]
  rw [each_run hM hg hn2 (n + 1) z true (by omega) hz.1, Bool.true_and]
  exact iter_end (each_end hM hg hz.1 hn2)
theorem lawP_DayformEach {dats : List Dat} (h : DatOk tau [.int .u8, .int .u8, .int .u8, .int .i32, .int .u8, .int .u8] dats) : F_law02_DayformEach dats = some [.b true] := by
  obtain ⟨a, r, rfl, ha, b, r, rfl, hb, c, r, rfl, hc, y, r, rfl, hy, m, r, rfl, hm, t, r, rfl, ht, rfl⟩ := h
  exact law_DayformEach (wf_u8 ha) (wf_u8 hb) (wf_u8 hc) (wf_i32 hy) (wf_u8 hm) (wf_u8 ht)
end Go.Proofs.YtljbgkfoljjgbaaDoor
