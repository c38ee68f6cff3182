/-
  Numeric abbreviations: the document's printer; both parsers.
-/
import Derived.Test.YtnfgmffcnmifkaaMTextnum
namespace Go.Proofs.Ytnfgmffcnmifkaa
open Go.Ax
set_option linter.all false
set_option maxHeartbeats 8000000
attribute [local congr] cond_cong bind_cong onI_cong onB_cong onS_cong onN_cong onL_cong

theorem decimal_at {n : Int} (h : 0 ≤ n ∧ n ≤ 9) : F_ref04_Decimal [.i n] = some [.s [dg n]] := by
  have : n = 0 ∨ n = 1 ∨ n = 2 ∨ n = 3 ∨ n = 4 ∨ n = 5 ∨ n = 6 ∨ n = 7 ∨ n = 8 ∨ n = 9 := by omega
  rcases this with rfl | rfl | rfl | rfl | rfl | rfl | rfl | rfl | rfl | rfl <;> rfl
theorem two_at {n : Int} (h : 0 ≤ n ∧ n ≤ 99) : F_ref04_Two [.i n] = some [.s (two n)] := by
  unfold F_ref04_Two
  have d1 : i64 (Int.tdiv n 10) = n / 10 := by rw [tdiv_nn (by omega), i64_in _ (by omega)]
  have d2 : Int.tmod n 10 = n % 10 := tmod_nn (by omega)
  have a1 := decimal_at (n := n / 10) (by omega)
  have a2 := decimal_at (n := n % 10) (by omega)
  simp (disch := omega) only [onI_c, onS_c, onB_c, onN_c, onL_c, Option.bind_some, Option.map_some, cond_true, cond_false, ↓onI_c, ↓onS_c, ↓onB_c, ↓onN_c, ↓onL_c, ↓Option.bind_some, ↓cond_true, ↓cond_false, decide_eq_true, decide_eq_false, Bool.not_true, Bool.not_false, Int.toNat_natCast, List.length_append, List.length_cons, List.length_nil, List.drop_zero, Nat.zero_add, Nat.add_zero, decT, decF, bneI_t, bneI_f, d1, d2, a1, a2]
  rfl
theorem two_len (n : Int) : (two n).length = 2 := rfl
theorem rtext_at {x : Int} (h : -9223372036854775808 ≤ x ∧ x ≤ 9223372036854775807) : F_ref20_Text [.i x] = some [.s (NT x)] := by
  unfold F_ref20_Text NT
  by_cases h1 : x < -86399
  · rw [if_pos h1]; simp (disch := omega) only [onI_c, onS_c, onB_c, onN_c, onL_c, Option.bind_some, Option.map_some, cond_true, cond_false, ↓onI_c, ↓onS_c, ↓onB_c, ↓onN_c, ↓onL_c, ↓Option.bind_some, ↓cond_true, ↓cond_false, decide_eq_true, decide_eq_false, Bool.not_true, Bool.not_false, Int.toNat_natCast, List.length_append, List.length_cons, List.length_nil, List.drop_zero, Nat.zero_add, Nat.add_zero, decT, decF, bneI_t, bneI_f, h1]
  by_cases h2 : 86399 < x
  · rw [if_neg h1, if_pos h2]; simp (disch := omega) only [onI_c, onS_c, onB_c, onN_c, onL_c, Option.bind_some, Option.map_some, cond_true, cond_false, ↓onI_c, ↓onS_c, ↓onB_c, ↓onN_c, ↓onL_c, ↓Option.bind_some, ↓cond_true, ↓cond_false, decide_eq_true, decide_eq_false, Bool.not_true, Bool.not_false, Int.toNat_natCast, List.length_append, List.length_cons, List.length_nil, List.drop_zero, Nat.zero_add, Nat.add_zero, decT, decF, bneI_t, bneI_f, h1, h2]
  have key : ∀ n : Int, 0 ≤ n ∧ n ≤ 86399 → i64 (Int.tdiv n 3600) = n / 3600 ∧ Int.tmod (i64 (Int.tdiv n 60)) 60 = n / 60 % 60 ∧ Int.tmod n 60 = n % 60 ∧ Int.tmod n 3600 = n % 3600 ∧
      F_ref04_Two [.i (n / 3600)] = some [.s (two (n / 3600))] ∧ F_ref04_Two [.i (n / 60 % 60)] = some [.s (two (n / 60 % 60))] ∧ F_ref04_Two [.i (n % 60)] = some [.s (two (n % 60))] ∧ (n % 3600 = 0 → n % 60 = 0) := by
    intro n hn
    refine ⟨?_, ?_, tmod_nn (by omega), tmod_nn (by omega), two_at (by omega), two_at (by omega), two_at (by omega), by omega⟩
    · rw [tdiv_nn (by omega), i64_in _ (by omega)]
    · rw [tdiv_nn (by omega), i64_in _ (by omega), tmod_nn (by omega)]
  by_cases h3 : x < 0
  · obtain ⟨n, rfl⟩ : ∃ n, x = -n := ⟨-x, by omega⟩
    have e1 : i64 (0 - -n) = n := by rw [i64_in _ (by omega)]; omega
    have e2 : - -n = n := by omega
    obtain ⟨t1, t2, t3, t4, w1, w2, w3, hz⟩ := key n (by omega)
    clear key
    rw [if_neg h1, if_neg h2, if_pos h3, e2]
    unfold NB
    by_cases hc : n % 3600 = 0
    · have hd := hz hc
      simp (disch := omega) only [onI_c, onS_c, onB_c, onN_c, onL_c, Option.bind_some, Option.map_some, cond_true, cond_false, ↓onI_c, ↓onS_c, ↓onB_c, ↓onN_c, ↓onL_c, ↓Option.bind_some, ↓cond_true, ↓cond_false, decide_eq_true, decide_eq_false, Bool.not_true, Bool.not_false, Int.toNat_natCast, List.length_append, List.length_cons, List.length_nil, List.drop_zero, Nat.zero_add, Nat.add_zero, decT, decF, bneI_t, bneI_f, e1, t1, t2, t3, t4, w1, w2, w3, hc, hd, two_len, List.append_nil, List.append_assoc, List.cons_append, List.nil_append, if_true, if_false, Nat.reduceAdd, Nat.reduceLeDiff]
    · by_cases hd : n % 60 = 0
      · simp (disch := omega) only [onI_c, onS_c, onB_c, onN_c, onL_c, Option.bind_some, Option.map_some, cond_true, cond_false, ↓onI_c, ↓onS_c, ↓onB_c, ↓onN_c, ↓onL_c, ↓Option.bind_some, ↓cond_true, ↓cond_false, decide_eq_true, decide_eq_false, Bool.not_true, Bool.not_false, Int.toNat_natCast, List.length_append, List.length_cons, List.length_nil, List.drop_zero, Nat.zero_add, Nat.add_zero, decT, decF, bneI_t, bneI_f, e1, t1, t2, t3, t4, w1, w2, w3, hc, hd, two_len, List.append_nil, List.append_assoc, List.cons_append, List.nil_append, if_true, if_false, Nat.reduceAdd, Nat.reduceLeDiff]
      · simp (disch := omega) only [onI_c, onS_c, onB_c, onN_c, onL_c, Option.bind_some, Option.map_some, cond_true, cond_false, ↓onI_c, ↓onS_c, ↓onB_c, ↓onN_c, ↓onL_c, ↓Option.bind_some, ↓cond_true, ↓cond_false, decide_eq_true, decide_eq_false, Bool.not_true, Bool.not_false, Int.toNat_natCast, List.length_append, List.length_cons, List.length_nil, List.drop_zero, Nat.zero_add, Nat.add_zero, decT, decF, bneI_t, bneI_f, e1, t1, t2, t3, t4, w1, w2, w3, hc, hd, two_len, List.append_nil, List.append_assoc, List.cons_append, List.nil_append, if_true, if_false, Nat.reduceAdd, Nat.reduceLeDiff]
  · obtain ⟨t1, t2, t3, t4, w1, w2, w3, hz⟩ := key x (by omega)
    clear key
    rw [if_neg h1, if_neg h2, if_neg h3]
    unfold NB
    by_cases hc : x % 3600 = 0
    · have hd := hz hc
      simp (disch := omega) only [onI_c, onS_c, onB_c, onN_c, onL_c, Option.bind_some, Option.map_some, cond_true, cond_false, ↓onI_c, ↓onS_c, ↓onB_c, ↓onN_c, ↓onL_c, ↓Option.bind_some, ↓cond_true, ↓cond_false, decide_eq_true, decide_eq_false, Bool.not_true, Bool.not_false, Int.toNat_natCast, List.length_append, List.length_cons, List.length_nil, List.drop_zero, Nat.zero_add, Nat.add_zero, decT, decF, bneI_t, bneI_f, h1, h2, h3, t1, t2, t3, t4, w1, w2, w3, hc, hd, two_len, List.append_nil, List.append_assoc, List.cons_append, List.nil_append, if_true, if_false, Nat.reduceAdd, Nat.reduceLeDiff]
    · by_cases hd : x % 60 = 0
      · simp (disch := omega) only [onI_c, onS_c, onB_c, onN_c, onL_c, Option.bind_some, Option.map_some, cond_true, cond_false, ↓onI_c, ↓onS_c, ↓onB_c, ↓onN_c, ↓onL_c, ↓Option.bind_some, ↓cond_true, ↓cond_false, decide_eq_true, decide_eq_false, Bool.not_true, Bool.not_false, Int.toNat_natCast, List.length_append, List.length_cons, List.length_nil, List.drop_zero, Nat.zero_add, Nat.add_zero, decT, decF, bneI_t, bneI_f, h1, h2, h3, t1, t2, t3, t4, w1, w2, w3, hc, hd, two_len, List.append_nil, List.append_assoc, List.cons_append, List.nil_append, if_true, if_false, Nat.reduceAdd, Nat.reduceLeDiff]
      · simp (disch := omega) only [onI_c, onS_c, onB_c, onN_c, onL_c, Option.bind_some, Option.map_some, cond_true, cond_false, ↓onI_c, ↓onS_c, ↓onB_c, ↓onN_c, ↓onL_c, ↓Option.bind_some, ↓cond_true, ↓cond_false, decide_eq_true, decide_eq_false, Bool.not_true, Bool.not_false, Int.toNat_natCast, List.length_append, List.length_cons, List.length_nil, List.drop_zero, Nat.zero_add, Nat.add_zero, decT, decF, bneI_t, bneI_f, h1, h2, h3, t1, t2, t3, t4, w1, w2, w3, hc, hd, two_len, List.append_nil, List.append_assoc, List.cons_append, List.nil_append, if_true, if_false, Nat.reduceAdd, Nat.reduceLeDiff]
end Go.Proofs.Ytnfgmffcnmifkaa
