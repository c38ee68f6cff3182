/-
  Amounts of time: the document's own reading.
-/
import Derived.Test.YtnfgmffcnmifkaaDoorMBackclo
namespace Go.Proofs.YtnfgmffcnmifkaaDoor
open Go.Ax Go.Lib
set_option linter.all false
set_option maxHeartbeats 8000000
attribute [local congr] cond_cong bind_cong onI_cong onB_cong onS_cong onN_cong onL_cong

theorem digit_at (c : UInt8) : F_ref04_digit [.i ((c.toNat : Nat) : Int)] = some [.i (if isD c = true then dig c else -1)] := by
  have hc : c.toNat < 256 := UInt8.toNat_lt c
  unfold F_ref04_digit dig
  by_cases h : isD c = true
  · obtain ⟨h1, h2⟩ := isD_iff.1 h
    rw [if_pos h]
    simp (disch := omega) only [onI_c, onS_c, onB_c, onN_c, onL_c, Option.bind_some, Option.map_some, cond_true, cond_false, ↓onI_c, ↓onS_c, ↓onB_c, ↓onN_c, ↓onL_c, ↓Option.bind_some, ↓cond_true, ↓cond_false, decide_eq_true, decide_eq_false, Bool.not_true, Bool.not_false, i64_in, u8_in, u32_in, i32_in, u16_in, u64_in, Int.toNat_natCast, List.length_append, List.length_cons, List.length_nil, tdiv_nn, tmod_nn, List.drop_zero, Nat.zero_add, Nat.add_zero, decT, decF, bneI_t, bneI_f, bytesOf_nil, bytesOf_cons, Isym_v, Ilit_v]
  · rw [if_neg h]
    have : ¬ (48 ≤ c.toNat ∧ c.toNat ≤ 57) := fun q => h (isD_iff.2 q)
    by_cases h1 : c.toNat < 48
    · simp (disch := omega) only [onI_c, onS_c, onB_c, onN_c, onL_c, Option.bind_some, Option.map_some, cond_true, cond_false, ↓onI_c, ↓onS_c, ↓onB_c, ↓onN_c, ↓onL_c, ↓Option.bind_some, ↓cond_true, ↓cond_false, decide_eq_true, decide_eq_false, Bool.not_true, Bool.not_false, i64_in, u8_in, u32_in, i32_in, u16_in, u64_in, Int.toNat_natCast, List.length_append, List.length_cons, List.length_nil, tdiv_nn, tmod_nn, List.drop_zero, Nat.zero_add, Nat.add_zero, decT, decF, bneI_t, bneI_f, bytesOf_nil, bytesOf_cons, Isym_v, Ilit_v]
    · simp (disch := omega) only [onI_c, onS_c, onB_c, onN_c, onL_c, Option.bind_some, Option.map_some, cond_true, cond_false, ↓onI_c, ↓onS_c, ↓onB_c, ↓onN_c, ↓onL_c, ↓Option.bind_some, ↓cond_true, ↓cond_false, decide_eq_true, decide_eq_false, Bool.not_true, Bool.not_false, i64_in, u8_in, u32_in, i32_in, u16_in, u64_in, Int.toNat_natCast, List.length_append, List.length_cons, List.length_nil, tdiv_nn, tmod_nn, List.drop_zero, Nat.zero_add, Nat.add_zero, decT, decF, bneI_t, bneI_f, bytesOf_nil, bytesOf_cons, Isym_v, Ilit_v]
def pairv (s : List UInt8) (j : Nat) : Int :=
  if j + 2 ≤ s.length ∧ isD (s.getD j 0) = true ∧ isD (s.getD (j + 1) 0) = true ∧ dig (s.getD j 0) ≤ 5 then 10 * dig (s.getD j 0) + dig (s.getD (j + 1) 0) else -1
theorem dig_bound {c : UInt8} (h : isD c = true) : 0 ≤ dig c ∧ dig c ≤ 9 := by
  obtain ⟨h1, h2⟩ := isD_iff.1 h
  unfold dig; omega
theorem pair_at {s : List UInt8} {j : Nat} (hs : s.length < 4611686018427387904) (hj : j < 9000000000000000000) : F_ref04_pair [.s s, .i (j : Int)] = some [.i (pairv s j)] := by
  have e1 : ((j : Int) + 1).toNat = j + 1 := by omega
  unfold F_ref04_pair pairv
  by_cases h : j + 2 ≤ s.length
  · by_cases h1 : isD (s.getD j 0) = true
    · have b1 := dig_bound h1
      by_cases h2 : isD (s.getD (j + 1) 0) = true
      · have b2 := dig_bound h2
        by_cases h5 : dig (s.getD j 0) ≤ 5
        · rw [if_pos ⟨h, h1, h2, h5⟩]
          simp (disch := omega) only [onI_c, onS_c, onB_c, onN_c, onL_c, Option.bind_some, Option.map_some, cond_true, cond_false, ↓onI_c, ↓onS_c, ↓onB_c, ↓onN_c, ↓onL_c, ↓Option.bind_some, ↓cond_true, ↓cond_false, decide_eq_true, decide_eq_false, Bool.not_true, Bool.not_false, i64_in, u8_in, u32_in, i32_in, u16_in, u64_in, Int.toNat_natCast, List.length_append, List.length_cons, List.length_nil, tdiv_nn, tmod_nn, List.drop_zero, Nat.zero_add, Nat.add_zero, decT, decF, bneI_t, bneI_f, bytesOf_nil, bytesOf_cons, Isym_v, Ilit_v, digit_at, e1, h1, h2, if_true]
        · rw [if_neg (fun q => h5 q.2.2.2)]
          simp (disch := omega) only [onI_c, onS_c, onB_c, onN_c, onL_c, Option.bind_some, Option.map_some, cond_true, cond_false, ↓onI_c, ↓onS_c, ↓onB_c, ↓onN_c, ↓onL_c, ↓Option.bind_some, ↓cond_true, ↓cond_false, decide_eq_true, decide_eq_false, Bool.not_true, Bool.not_false, i64_in, u8_in, u32_in, i32_in, u16_in, u64_in, Int.toNat_natCast, List.length_append, List.length_cons, List.length_nil, tdiv_nn, tmod_nn, List.drop_zero, Nat.zero_add, Nat.add_zero, decT, decF, bneI_t, bneI_f, bytesOf_nil, bytesOf_cons, Isym_v, Ilit_v, digit_at, e1, h1, h2, if_true]
      · rw [if_neg (fun q => h2 q.2.2.1)]
        simp (disch := omega) only [onI_c, onS_c, onB_c, onN_c, onL_c, Option.bind_some, Option.map_some, cond_true, cond_false, ↓onI_c, ↓onS_c, ↓onB_c, ↓onN_c, ↓onL_c, ↓Option.bind_some, ↓cond_true, ↓cond_false, decide_eq_true, decide_eq_false, Bool.not_true, Bool.not_false, i64_in, u8_in, u32_in, i32_in, u16_in, u64_in, Int.toNat_natCast, List.length_append, List.length_cons, List.length_nil, tdiv_nn, tmod_nn, List.drop_zero, Nat.zero_add, Nat.add_zero, decT, decF, bneI_t, bneI_f, bytesOf_nil, bytesOf_cons, Isym_v, Ilit_v, digit_at, e1, h1, h2, if_true, if_false, Bool.false_eq_true, not_false_eq_true]
    · rw [if_neg (fun q => h1 q.2.1)]
      simp (disch := omega) only [onI_c, onS_c, onB_c, onN_c, onL_c, Option.bind_some, Option.map_some, cond_true, cond_false, ↓onI_c, ↓onS_c, ↓onB_c, ↓onN_c, ↓onL_c, ↓Option.bind_some, ↓cond_true, ↓cond_false, decide_eq_true, decide_eq_false, Bool.not_true, Bool.not_false, i64_in, u8_in, u32_in, i32_in, u16_in, u64_in, Int.toNat_natCast, List.length_append, List.length_cons, List.length_nil, tdiv_nn, tmod_nn, List.drop_zero, Nat.zero_add, Nat.add_zero, decT, decF, bneI_t, bneI_f, bytesOf_nil, bytesOf_cons, Isym_v, Ilit_v, digit_at, e1, h1, if_false, Bool.false_eq_true, not_false_eq_true]
  · rw [if_neg (fun q => h q.1)]
    simp (disch := omega) only [onI_c, onS_c, onB_c, onN_c, onL_c, Option.bind_some, Option.map_some, cond_true, cond_false, ↓onI_c, ↓onS_c, ↓onB_c, ↓onN_c, ↓onL_c, ↓Option.bind_some, ↓cond_true, ↓cond_false, decide_eq_true, decide_eq_false, Bool.not_true, Bool.not_false, i64_in, u8_in, u32_in, i32_in, u16_in, u64_in, Int.toNat_natCast, List.length_append, List.length_cons, List.length_nil, tdiv_nn, tmod_nn, List.drop_zero, Nat.zero_add, Nat.add_zero, decT, decF, bneI_t, bneI_f, bytesOf_nil, bytesOf_cons, Isym_v, Ilit_v]
def nof : List Dat := [.i 0, .b false]
def rtail (s : List UInt8) (n : Nat) (h : Int) : List Dat :=
  if n = 0 ∨ (1 < n ∧ (s.getD 0 0).toNat = 48) then nof
  else if s.length = n then [.i (3600 * h), .b true]
  else if (s.getD n 0).toNat ≠ 58 ∨ pairv s (n + 1) < 0 then nof
  else if s.length = n + 3 then [.i (3600 * h + 60 * pairv s (n + 1)), .b true]
  else if (s.getD (n + 3) 0).toNat ≠ 58 ∨ pairv s (n + 4) < 0 ∨ s.length ≠ n + 6 then nof
  else [.i (3600 * h + 60 * pairv s (n + 1) + pairv s (n + 4)), .b true]
theorem pairv_bound (s : List UInt8) (j : Nat) : -1 ≤ pairv s j ∧ pairv s j ≤ 99 ∧ (0 ≤ pairv s j → j + 2 ≤ s.length) := by
  unfold pairv
  split
  · rename_i h
    have b1 := dig_bound h.2.1
    have b2 := dig_bound h.2.2.1
    omega
  · omega
/-- What is behind the hours. -/
theorem rtail_at {s : List UInt8} {n : Nat} {h : Int} (hs : s.length < 4611686018427387904) (hn : n ≤ s.length) (hh : 0 ≤ h ∧ h ≤ 1000) :
    (Option.bind (bif (decide ((n : Int) = 0)) then (some true) else
     (bif (decide (1 < (n : Int))) then (bif (decide (((0 : Int) ≤ 0) ∧ (0 < (((s).length : Nat) : Int)))) then (bif (decide (((((List.getD s 0 0)).toNat : Nat) : Int) = 48)) then (some true) else
       (some false)) else none) else
      (some false))) fun b_3 =>
    bif b_3 then (some [(Dat.i 0), (Dat.b false)]) else
    (bif (decide ((((s).length : Nat) : Int) = (n : Int))) then (some [(.i (i64 (3600 * h))), (.b true)]) else
     (Option.bind (F_ref04_pair [(.s s), (.i (i64 ((n : Int) + 1)))]) fun r_4 =>
      onI r_4 fun i_4 ds_10 =>
      Option.bind (bif (decide ((0 ≤ (n : Int)) ∧ ((n : Int) < (((s).length : Nat) : Int)))) then (bif (!decide (((((List.getD s ((n : Int)).toNat 0)).toNat : Nat) : Int) = 58)) then (some true) else
       (bif (decide (i_4 < 0)) then (some true) else
        (some false))) else none) fun b_4 =>
      bif b_4 then (some [(.i 0), (.b false)]) else
      (bif (decide ((((s).length : Nat) : Int) = (i64 ((n : Int) + 3)))) then (some [(.i (i64 ((i64 (3600 * h)) + (i64 (60 * i_4))))), (.b true)]) else
       (Option.bind (F_ref04_pair [(.s s), (.i (i64 ((n : Int) + 4)))]) fun r_5 =>
        onI r_5 fun i_5 ds_11 =>
        Option.bind (bif (decide ((0 ≤ (i64 ((n : Int) + 3))) ∧ ((i64 ((n : Int) + 3)) < (((s).length : Nat) : Int)))) then (bif (!decide (((((List.getD s ((i64 ((n : Int) + 3))).toNat 0)).toNat : Nat) : Int) = 58)) then (some true) else
         (bif (decide (i_5 < 0)) then (some true) else
          (bif (!decide ((((s).length : Nat) : Int) = (i64 ((n : Int) + 6)))) then (some true) else
           (some false)))) else none) fun b_5 =>
        bif b_5 then (some [(.i 0), (.b false)]) else
        (some [(.i (i64 ((i64 ((i64 (3600 * h)) + (i64 (60 * i_4)))) + i_5))), (.b true)])))))) = some (rtail s n h) := by
  have p1 := pair_at (s := s) (j := n + 1) hs (by omega)
  have p2 := pair_at (s := s) (j := n + 4) hs (by omega)
  have e1 : i64 ((n : Int) + 1) = ((n + 1 : Nat) : Int) := by rw [i64_in _ (by omega)]; omega
  have e4 : i64 ((n : Int) + 4) = ((n + 4 : Nat) : Int) := by rw [i64_in _ (by omega)]; omega
  have e3 : i64 ((n : Int) + 3) = ((n + 3 : Nat) : Int) := by rw [i64_in _ (by omega)]; omega
  have e6 : i64 ((n : Int) + 6) = ((n + 6 : Nat) : Int) := by rw [i64_in _ (by omega)]; omega
  have b1 := pairv_bound s (n + 1)
  have b2 := pairv_bound s (n + 4)
  unfold rtail
  generalize pairv s (n + 1) = u at *
  generalize pairv s (n + 4) = v at *
  generalize (s.getD 0 0).toNat = x0 at *
  have tl : ∀ b : Bool, b = true → ((bif b then (some [(Dat.i 0), (Dat.b false)]) else some []) = some nof) := fun b hb => by rw [hb]; rfl
  by_cases h0 : n = 0 ∨ (1 < n ∧ x0 = 48)
  · rw [if_pos h0]
    by_cases hz : n = 0
    · simp (disch := omega) only [onI_c, onS_c, onB_c, onN_c, onL_c, Option.bind_some, Option.map_some, cond_true, cond_false, ↓onI_c, ↓onS_c, ↓onB_c, ↓onN_c, ↓onL_c, ↓Option.bind_some, ↓cond_true, ↓cond_false, decide_eq_true, decide_eq_false, Bool.not_true, Bool.not_false, Int.toNat_natCast, List.length_append, List.length_cons, List.length_nil, List.drop_zero, Nat.zero_add, Nat.add_zero, decT, decF, bneI_t, bneI_f]; rfl
    · simp (disch := omega) only [onI_c, onS_c, onB_c, onN_c, onL_c, Option.bind_some, Option.map_some, cond_true, cond_false, ↓onI_c, ↓onS_c, ↓onB_c, ↓onN_c, ↓onL_c, ↓Option.bind_some, ↓cond_true, ↓cond_false, decide_eq_true, decide_eq_false, Bool.not_true, Bool.not_false, Int.toNat_natCast, List.length_append, List.length_cons, List.length_nil, List.drop_zero, Nat.zero_add, Nat.add_zero, decT, decF, bneI_t, bneI_f]; rfl
  · rw [if_neg h0]
    by_cases hl : s.length = n
    · rw [if_pos hl]
      by_cases h1 : 1 < n
      · simp (disch := omega) only [onI_c, onS_c, onB_c, onN_c, onL_c, Option.bind_some, Option.map_some, cond_true, cond_false, ↓onI_c, ↓onS_c, ↓onB_c, ↓onN_c, ↓onL_c, ↓Option.bind_some, ↓cond_true, ↓cond_false, decide_eq_true, decide_eq_false, Bool.not_true, Bool.not_false, Int.toNat_natCast, List.length_append, List.length_cons, List.length_nil, List.drop_zero, Nat.zero_add, Nat.add_zero, decT, decF, bneI_t, bneI_f, i64_in]
      · simp (disch := omega) only [onI_c, onS_c, onB_c, onN_c, onL_c, Option.bind_some, Option.map_some, cond_true, cond_false, ↓onI_c, ↓onS_c, ↓onB_c, ↓onN_c, ↓onL_c, ↓Option.bind_some, ↓cond_true, ↓cond_false, decide_eq_true, decide_eq_false, Bool.not_true, Bool.not_false, Int.toNat_natCast, List.length_append, List.length_cons, List.length_nil, List.drop_zero, Nat.zero_add, Nat.add_zero, decT, decF, bneI_t, bneI_f, i64_in]
    · rw [if_neg hl]
      have key : (bif (decide ((n : Int) = 0)) then (some true) else
         (bif (decide (1 < (n : Int))) then (bif (decide (((0 : Int) ≤ 0) ∧ (0 < (((s).length : Nat) : Int)))) then (bif (decide (((x0 : Nat) : Int) = 48)) then (some true) else
           (some false)) else none) else
          (some false))) = some false := by
        by_cases h1 : 1 < n
        · simp (disch := omega) only [onI_c, onS_c, onB_c, onN_c, onL_c, Option.bind_some, Option.map_some, cond_true, cond_false, ↓onI_c, ↓onS_c, ↓onB_c, ↓onN_c, ↓onL_c, ↓Option.bind_some, ↓cond_true, ↓cond_false, decide_eq_true, decide_eq_false, Bool.not_true, Bool.not_false, Int.toNat_natCast, List.length_append, List.length_cons, List.length_nil, List.drop_zero, Nat.zero_add, Nat.add_zero, decT, decF, bneI_t, bneI_f]
        · simp (disch := omega) only [onI_c, onS_c, onB_c, onN_c, onL_c, Option.bind_some, Option.map_some, cond_true, cond_false, ↓onI_c, ↓onS_c, ↓onB_c, ↓onN_c, ↓onL_c, ↓Option.bind_some, ↓cond_true, ↓cond_false, decide_eq_true, decide_eq_false, Bool.not_true, Bool.not_false, Int.toNat_natCast, List.length_append, List.length_cons, List.length_nil, List.drop_zero, Nat.zero_add, Nat.add_zero, decT, decF, bneI_t, bneI_f]
      simp only [key, Option.bind_some, cond_false, e1, e3, e4, e6, p1, p2, onI_c]
      by_cases hm : (s.getD n 0).toNat ≠ 58 ∨ u < 0
      · rw [if_pos hm]
        by_cases h58 : (s.getD n 0).toNat ≠ 58
        · simp (disch := omega) only [onI_c, onS_c, onB_c, onN_c, onL_c, Option.bind_some, Option.map_some, cond_true, cond_false, ↓onI_c, ↓onS_c, ↓onB_c, ↓onN_c, ↓onL_c, ↓Option.bind_some, ↓cond_true, ↓cond_false, decide_eq_true, decide_eq_false, Bool.not_true, Bool.not_false, Int.toNat_natCast, List.length_append, List.length_cons, List.length_nil, List.drop_zero, Nat.zero_add, Nat.add_zero, decT, decF, bneI_t, bneI_f]; rfl
        · simp (disch := omega) only [onI_c, onS_c, onB_c, onN_c, onL_c, Option.bind_some, Option.map_some, cond_true, cond_false, ↓onI_c, ↓onS_c, ↓onB_c, ↓onN_c, ↓onL_c, ↓Option.bind_some, ↓cond_true, ↓cond_false, decide_eq_true, decide_eq_false, Bool.not_true, Bool.not_false, Int.toNat_natCast, List.length_append, List.length_cons, List.length_nil, List.drop_zero, Nat.zero_add, Nat.add_zero, decT, decF, bneI_t, bneI_f]; rfl
      · rw [if_neg hm]
        by_cases hl3 : s.length = n + 3
        · rw [if_pos hl3]
          simp (disch := omega) only [onI_c, onS_c, onB_c, onN_c, onL_c, Option.bind_some, Option.map_some, cond_true, cond_false, ↓onI_c, ↓onS_c, ↓onB_c, ↓onN_c, ↓onL_c, ↓Option.bind_some, ↓cond_true, ↓cond_false, decide_eq_true, decide_eq_false, Bool.not_true, Bool.not_false, Int.toNat_natCast, List.length_append, List.length_cons, List.length_nil, List.drop_zero, Nat.zero_add, Nat.add_zero, decT, decF, bneI_t, bneI_f, i64_in]
        · rw [if_neg hl3]
          by_cases hm2 : (s.getD (n + 3) 0).toNat ≠ 58 ∨ v < 0 ∨ s.length ≠ n + 6
          · rw [if_pos hm2]
            by_cases h58 : (s.getD (n + 3) 0).toNat ≠ 58
            · simp (disch := omega) only [onI_c, onS_c, onB_c, onN_c, onL_c, Option.bind_some, Option.map_some, cond_true, cond_false, ↓onI_c, ↓onS_c, ↓onB_c, ↓onN_c, ↓onL_c, ↓Option.bind_some, ↓cond_true, ↓cond_false, decide_eq_true, decide_eq_false, Bool.not_true, Bool.not_false, Int.toNat_natCast, List.length_append, List.length_cons, List.length_nil, List.drop_zero, Nat.zero_add, Nat.add_zero, decT, decF, bneI_t, bneI_f]; rfl
            · by_cases hv : v < 0
              · simp (disch := omega) only [onI_c, onS_c, onB_c, onN_c, onL_c, Option.bind_some, Option.map_some, cond_true, cond_false, ↓onI_c, ↓onS_c, ↓onB_c, ↓onN_c, ↓onL_c, ↓Option.bind_some, ↓cond_true, ↓cond_false, decide_eq_true, decide_eq_false, Bool.not_true, Bool.not_false, Int.toNat_natCast, List.length_append, List.length_cons, List.length_nil, List.drop_zero, Nat.zero_add, Nat.add_zero, decT, decF, bneI_t, bneI_f]; rfl
              · simp (disch := omega) only [onI_c, onS_c, onB_c, onN_c, onL_c, Option.bind_some, Option.map_some, cond_true, cond_false, ↓onI_c, ↓onS_c, ↓onB_c, ↓onN_c, ↓onL_c, ↓Option.bind_some, ↓cond_true, ↓cond_false, decide_eq_true, decide_eq_false, Bool.not_true, Bool.not_false, Int.toNat_natCast, List.length_append, List.length_cons, List.length_nil, List.drop_zero, Nat.zero_add, Nat.add_zero, decT, decF, bneI_t, bneI_f]; rfl
          · rw [if_neg hm2]
            simp (disch := omega) only [onI_c, onS_c, onB_c, onN_c, onL_c, Option.bind_some, Option.map_some, cond_true, cond_false, ↓onI_c, ↓onS_c, ↓onB_c, ↓onN_c, ↓onL_c, ↓Option.bind_some, ↓cond_true, ↓cond_false, decide_eq_true, decide_eq_false, Bool.not_true, Bool.not_false, Int.toNat_natCast, List.length_append, List.length_cons, List.length_nil, List.drop_zero, Nat.zero_add, Nat.add_zero, decT, decF, bneI_t, bneI_f, i64_in]
theorem form_digit {s : List UInt8} {n : Nat} {h : Int} (hs : s.length < 4611686018427387904) (hn : n < s.length) (h3 : n < 3) (hh : 0 ≤ h ∧ h ≤ 1000) (hd : isD (s.getD n 0) = true) :
    F_ref04_form_L0 [.s s, .i (n : Int), .i h] = some (.inl [.s s, .i ((n + 1 : Nat) : Int), .i (10 * h + dig (s.getD n 0))]) := by
  have b1 := dig_bound hd
  unfold F_ref04_form_L0
  simp (disch := omega) only [onI_c, onS_c, onB_c, onN_c, onL_c, Option.bind_some, Option.map_some, cond_true, cond_false, ↓onI_c, ↓onS_c, ↓onB_c, ↓onN_c, ↓onL_c, ↓Option.bind_some, ↓cond_true, ↓cond_false, decide_eq_true, decide_eq_false, Bool.not_true, Bool.not_false, i64_in, u8_in, u32_in, i32_in, u16_in, u64_in, Int.toNat_natCast, List.length_append, List.length_cons, List.length_nil, tdiv_nn, tmod_nn, List.drop_zero, Nat.zero_add, Nat.add_zero, decT, decF, bneI_t, bneI_f, bytesOf_nil, bytesOf_cons, Isym_v, Ilit_v, digit_at, hd, if_true]
  rfl
theorem form_many {s : List UInt8} {h : Int} (hs : s.length < 4611686018427387904) (hn : 3 < s.length) (hd : isD (s.getD 3 0) = true) :
    F_ref04_form_L0 [.s s, .i ((3 : Nat) : Int), .i h] = some (.inr nof) := by
  have b1 := dig_bound hd
  unfold F_ref04_form_L0
  simp (disch := omega) only [onI_c, onS_c, onB_c, onN_c, onL_c, Option.bind_some, Option.map_some, cond_true, cond_false, ↓onI_c, ↓onS_c, ↓onB_c, ↓onN_c, ↓onL_c, ↓Option.bind_some, ↓cond_true, ↓cond_false, decide_eq_true, decide_eq_false, Bool.not_true, Bool.not_false, i64_in, u8_in, u32_in, i32_in, u16_in, u64_in, Int.toNat_natCast, List.length_append, List.length_cons, List.length_nil, tdiv_nn, tmod_nn, List.drop_zero, Nat.zero_add, Nat.add_zero, decT, decF, bneI_t, bneI_f, bytesOf_nil, bytesOf_cons, Isym_v, Ilit_v, digit_at, hd, if_true]
  rfl
theorem form_end {s : List UInt8} {n : Nat} {h : Int} (hs : s.length < 4611686018427387904) (hn : n ≤ s.length) (hh : 0 ≤ h ∧ h ≤ 1000) (he : Ends s n) :
    F_ref04_form_L0 [.s s, .i (n : Int), .i h] = some (.inr (rtail s n h)) := by
  have ht := rtail_at hs hn hh
  unfold F_ref04_form_L0
  simp only [onS_c, onI_c]
  rw [ht]
  rcases he with he | ⟨he, hd⟩ | ⟨he, hd⟩
  · simp (disch := omega) only [onI_c, onS_c, onB_c, onN_c, onL_c, Option.bind_some, Option.map_some, cond_true, cond_false, ↓onI_c, ↓onS_c, ↓onB_c, ↓onN_c, ↓onL_c, ↓Option.bind_some, ↓cond_true, ↓cond_false, decide_eq_true, decide_eq_false, Bool.not_true, Bool.not_false, Int.toNat_natCast, List.length_append, List.length_cons, List.length_nil, List.drop_zero, Nat.zero_add, Nat.add_zero, decT, decF, bneI_t, bneI_f]
  · have hn : ¬ isD (s.getD n 0) = true := fun q => by have := isD_iff.1 q; omega
    simp (disch := omega) only [onI_c, onS_c, onB_c, onN_c, onL_c, Option.bind_some, Option.map_some, cond_true, cond_false, ↓onI_c, ↓onS_c, ↓onB_c, ↓onN_c, ↓onL_c, ↓Option.bind_some, ↓cond_true, ↓cond_false, decide_eq_true, decide_eq_false, Bool.not_true, Bool.not_false, Int.toNat_natCast, List.length_append, List.length_cons, List.length_nil, List.drop_zero, Nat.zero_add, Nat.add_zero, decT, decF, bneI_t, bneI_f, digit_at, hn, if_false, Bool.false_eq_true]
  · have hn : ¬ isD (s.getD n 0) = true := fun q => by have := isD_iff.1 q; omega
    simp (disch := omega) only [onI_c, onS_c, onB_c, onN_c, onL_c, Option.bind_some, Option.map_some, cond_true, cond_false, ↓onI_c, ↓onS_c, ↓onB_c, ↓onN_c, ↓onL_c, ↓Option.bind_some, ↓cond_true, ↓cond_false, decide_eq_true, decide_eq_false, Bool.not_true, Bool.not_false, Int.toNat_natCast, List.length_append, List.length_cons, List.length_nil, List.drop_zero, Nat.zero_add, Nat.add_zero, decT, decF, bneI_t, bneI_f, digit_at, hn, if_false, Bool.false_eq_true]
theorem getD_tw {s : List UInt8} : ∀ {n : Nat}, n < (s.takeWhile isD).length → isD (s.getD n 0) = true := by
  induction s with
  | nil => intro n h; simp at h
  | cons x s ih =>
    intro n h
    rw [List.takeWhile_cons] at h
    split at h
    · rename_i hx
      cases n with
      | zero => exact hx
      | succ n => exact ih (by simpa using h)
    · simp at h
theorem tw_rest (s : List UInt8) : ∃ t, s = s.takeWhile isD ++ t := ⟨s.dropWhile isD, (List.takeWhile_append_dropWhile).symm⟩
/-- What psplit gives, as the document has it. -/
def psum2 : Option (Int × Int × Int) → List Dat
  | some (x, y, z) => [.i (3600 * x + 60 * y + z), .b true]
  | none => nof
theorem pairv_tw {s : List UInt8} {j : Nat} (hj : j ≤ s.length) : (if ¬ (((s.drop j).takeWhile isD).length = 2 ∧ dval 0 ((s.drop j).takeWhile isD) ≤ 59) then (pairv s j < 0 ∨ (0 ≤ pairv s j ∧ j + 2 < s.length ∧ isD (s.getD (j + 2) 0) = true)) else (pairv s j = dval 0 ((s.drop j).takeWhile isD) ∧ 0 ≤ pairv s j)) := by
  have gd : ∀ i, (s.drop j).getD i 0 = s.getD (j + i) 0 := by
    intro i; simp [List.getD, List.getElem?_drop]
  have ln := takeWhile_len (s.drop j)
  rw [List.length_drop] at ln
  obtain ⟨t, ht⟩ := tw_rest (s.drop j)
  have e0 := gd 0
  have e1 := gd 1
  have e2 := gd 2
  have tw : ∀ i, i < ((s.drop j).takeWhile isD).length → isD ((s.drop j).getD i 0) = true := fun i h => getD_tw h
  have al := takeWhile_all (p := isD) (s.drop j)
  have en := ends_at (s := s) _ j rfl hj
  rw [ht] at e0 e1 e2
  generalize hr : (s.drop j).takeWhile isD = r at *
  match r, ln, al with
  | [], ln, al =>
    rw [if_pos (by simp)]
    left
    unfold pairv
    rw [if_neg]
    · omega
    · rintro ⟨q1, q2, _⟩
      have := isD_iff.1 q2
      simp only [List.length_nil, Nat.add_zero] at en
      rcases en with en | ⟨_, en⟩ | ⟨_, en⟩ <;> omega
  | [a], ln, al =>
    rw [if_pos (by simp)]
    left
    unfold pairv
    rw [if_neg]
    · omega
    · rintro ⟨q1, q2, q3, _⟩
      have := isD_iff.1 q3
      simp only [List.length_nil, List.length_cons, Nat.zero_add] at en
      rcases en with en | ⟨_, en⟩ | ⟨_, en⟩ <;> omega
  | a :: b :: r, ln, al =>
    have e0 : a = s.getD j 0 := e0
    have e1 : b = s.getD (j + 1) 0 := e1
    have ha := al a (by simp)
    have hb := al b (by simp)
    have ba := dig_bound ha
    have bb := dig_bound hb
    simp only [List.length_cons] at ln
    have pv : pairv s j = if dig a ≤ 5 then 10 * dig a + dig b else -1 := by
      unfold pairv
      rw [← e0, ← e1]
      by_cases h5 : dig a ≤ 5
      · rw [if_pos h5, if_pos ⟨by omega, ha, hb, h5⟩]
      · rw [if_neg h5, if_neg (fun q => h5 q.2.2.2)]
    rw [pv]
    cases r with
    | nil =>
      have dv : dval 0 [a, b] = 10 * dig a + dig b := by
        unfold dval dval dval dstep; simp; omega
      rw [dv]
      by_cases h5 : dig a ≤ 5
      · rw [if_neg (by simp; omega), if_pos h5]; omega
      · rw [if_pos (by simp; omega), if_neg h5]; left; omega
    | cons x r =>
      rw [if_pos (by simp)]
      by_cases h5 : dig a ≤ 5
      · rw [if_pos h5]
        right
        have hx := al x (by simp)
        have e2 : x = s.getD (j + 2) 0 := e2
        rw [← e2]
        simp only [List.length_cons] at ln
        exact ⟨by omega, by omega, hx⟩
      · rw [if_neg h5]; left; omega
theorem rtail_eq {s : List UInt8} (h3 : (s.takeWhile isD).length ≤ 3) : rtail s (s.takeWhile isD).length (dval 0 (s.takeWhile isD)) = psum2 (psplit s) := by
  have ln := takeWhile_len s
  unfold rtail psplit
  dsimp only
  generalize s.takeWhile isD = r at *
  by_cases h0 : r.length = 0 ∨ (1 < r.length ∧ (s.getD 0 0).toNat = 48)
  · rw [if_pos h0, if_pos (show r.length < 1 ∨ 3 < r.length ∨ 1 < r.length ∧ (s.getD 0 0).toNat = 48 by omega)]; rfl
  · rw [if_neg h0, if_neg (show ¬ (r.length < 1 ∨ 3 < r.length ∨ 1 < r.length ∧ (s.getD 0 0).toNat = 48) by omega)]
    by_cases he : s.length = r.length
    · rw [if_pos he, if_pos he.symm]; unfold psum2; dsimp only; congr 2; omega
    · rw [if_neg he, if_neg (show ¬ r.length = s.length from fun q => he q.symm)]
      have p1 := pairv_tw (s := s) (j := r.length + 1) (by omega)
      have b1 := pairv_bound s (r.length + 1)
      generalize (s.drop (r.length + 1)).takeWhile isD = r2 at *
      by_cases h58 : (s.getD r.length 0).toNat ≠ 58
      · rw [if_pos (.inl h58), if_pos h58]; rfl
      · rw [if_neg h58]
        by_cases h2 : ¬ (r2.length = 2 ∧ dval 0 r2 ≤ 59)
        · rw [if_pos h2] at p1 ⊢
          rcases p1 with p1 | ⟨p1, p2, p3⟩
          · rw [if_pos (.inr p1)]; rfl
          · have := isD_iff.1 p3
            rw [if_neg (show ¬ ((s.getD r.length 0).toNat ≠ 58 ∨ pairv s (r.length + 1) < 0) by omega), if_neg (show ¬ s.length = r.length + 3 by omega), if_pos (.inl (by rw [show r.length + 3 = r.length + 1 + 2 by omega]; omega))]; rfl
        · rw [if_neg h2] at p1 ⊢
          obtain ⟨p1, p1'⟩ := p1
          rw [if_neg (show ¬ ((s.getD r.length 0).toNat ≠ 58 ∨ pairv s (r.length + 1) < 0) by omega)]
          by_cases he2 : s.length = r.length + 3
          · rw [if_pos he2, if_pos he2.symm, p1]; unfold psum2; dsimp only; congr 2; omega
          · rw [if_neg he2, if_neg (show ¬ r.length + 3 = s.length from fun q => he2 q.symm)]
            have q1 := pairv_tw (s := s) (j := r.length + 4) (by have := b1.2.2 p1'; omega)
            have b2 := pairv_bound s (r.length + 4)
            generalize (s.drop (r.length + 4)).takeWhile isD = r3 at *
            by_cases h582 : (s.getD (r.length + 3) 0).toNat ≠ 58
            · rw [if_pos (.inl h582), if_pos h582]; rfl
            · rw [if_neg h582]
              by_cases h3 : ¬ (r3.length = 2 ∧ dval 0 r3 ≤ 59)
              · rw [if_pos h3] at q1 ⊢
                rcases q1 with q1 | ⟨q1, q2, q3⟩
                · rw [if_pos (.inr (.inl q1))]; rfl
                · rw [if_pos (.inr (.inr (by omega)))]; rfl
              · rw [if_neg h3] at q1 ⊢
                by_cases he3 : s.length = r.length + 6
                · rw [if_neg (show ¬ ((s.getD (r.length + 3) 0).toNat ≠ 58 ∨ pairv s (r.length + 4) < 0 ∨ s.length ≠ r.length + 6) by omega), if_pos he3.symm, p1, q1.1]; rfl
                · rw [if_pos (.inr (.inr he3)), if_neg (show ¬ r.length + 6 = s.length from fun q => he3 q.symm)]; rfl
theorem form_at {s : List UInt8} (hs : s.length < 4611686018427387904) : F_ref04_form [.s s] = some (psum2 (psplit s)) := by
  unfold F_ref04_form
  simp only [onS_c]
  have ln := takeWhile_len s
  have en := ends_at (s := s) _ 0 rfl (by omega)
  rw [List.drop_zero, Nat.zero_add] at en
  have al := takeWhile_all (p := isD) s
  obtain ⟨t, ht⟩ := tw_rest s
  have hrt := rtail_eq (s := s)
  have d1 := fun h n => form_digit (s := s) (n := n) (h := h) hs
  show iter F_ref04_form_L0 [.s s, .i ((0 : Nat) : Int), .i 0] = _
  by_cases h3 : (s.takeWhile isD).length ≤ 3
  · rw [← hrt h3]
    clear hrt
    generalize s.takeWhile isD = r at *
    match r, h3, ln, en, al, ht with
    | [], _, ln, en, al, ht => exact iter_end (form_end hs (by omega) (by omega) en)
    | [a], _, ln, en, al, ht =>
      simp only [List.length_cons, List.length_nil] at ln en
      have g0 : s.getD 0 0 = a := by rw [ht]; rfl
      have ha := al a (by simp)
      have ba := dig_bound ha
      have dv : dval 0 [a] = dig a := by unfold dval dval dstep; simp; omega
      have s1 := d1 0 0 (by omega) (by omega) (by omega) (by rw [g0]; exact ha)
      rw [g0] at s1
      rw [iter_next s1, show 10 * 0 + dig a = dig a by omega, dv]
      exact iter_end (form_end hs (by omega) (by omega) en)
    | [a, b], _, ln, en, al, ht =>
      simp only [List.length_cons, List.length_nil] at ln en
      have g0 : s.getD 0 0 = a := by rw [ht]; rfl
      have g1 : s.getD 1 0 = b := by rw [ht]; rfl
      have ha := al a (by simp)
      have hb := al b (by simp)
      have ba := dig_bound ha
      have bb := dig_bound hb
      have dv : dval 0 [a, b] = 10 * dig a + dig b := by unfold dval dval dval dstep; simp; omega
      have s1 := d1 0 0 (by omega) (by omega) (by omega) (by rw [g0]; exact ha)
      have s2 := d1 (dig a) 1 (by omega) (by omega) (by omega) (by rw [g1]; exact hb)
      rw [g0] at s1
      rw [g1] at s2
      rw [iter_next s1, show 10 * 0 + dig a = dig a by omega, iter_next s2, dv]
      exact iter_end (form_end hs (by omega) (by omega) en)
    | [a, b, c], _, ln, en, al, ht =>
      simp only [List.length_cons, List.length_nil] at ln en
      have g0 : s.getD 0 0 = a := by rw [ht]; rfl
      have g1 : s.getD 1 0 = b := by rw [ht]; rfl
      have g2 : s.getD 2 0 = c := by rw [ht]; rfl
      have ha := al a (by simp)
      have hb := al b (by simp)
      have hc := al c (by simp)
      have ba := dig_bound ha
      have bb := dig_bound hb
      have bc := dig_bound hc
      have dv : dval 0 [a, b, c] = 10 * (10 * dig a + dig b) + dig c := by
        unfold dval dval dval dval dstep
        rw [show 10 * 0 + dig a = dig a by omega, if_neg (show ¬ 1000 < dig a by omega), if_neg (show ¬ 1000 < 10 * dig a + dig b by omega), if_neg (by omega)]
      have s1 := d1 0 0 (by omega) (by omega) (by omega) (by rw [g0]; exact ha)
      have s2 := d1 (dig a) 1 (by omega) (by omega) (by omega) (by rw [g1]; exact hb)
      have s3 := d1 (10 * dig a + dig b) 2 (by omega) (by omega) (by omega) (by rw [g2]; exact hc)
      rw [g0] at s1
      rw [g1] at s2
      rw [g2] at s3
      rw [iter_next s1, show 10 * 0 + dig a = dig a by omega, iter_next s2, iter_next s3, dv]
      exact iter_end (form_end hs (by omega) (by omega) en)
    | a :: b :: c :: d :: r, h3, _, _, _, _ => simp at h3
  · have hn : psplit s = none := by unfold psplit; dsimp only; rw [if_pos (.inr (.inl (by omega)))]
    rw [hn]
    generalize s.takeWhile isD = r at *
    match r, h3, ln, al, ht with
    | [], h3, _, _, _ | [_], h3, _, _, _ | [_, _], h3, _, _, _ | [_, _, _], h3, _, _, _ => simp at h3
    | a :: b :: c :: d :: r, _, ln, al, ht =>
      simp only [List.length_cons] at ln
      have g0 : s.getD 0 0 = a := by rw [ht]; rfl
      have g1 : s.getD 1 0 = b := by rw [ht]; rfl
      have g2 : s.getD 2 0 = c := by rw [ht]; rfl
      have g3 : s.getD 3 0 = d := by rw [ht]; rfl
      have ha := al a (by simp)
      have hb := al b (by simp)
      have hc := al c (by simp)
      have hd := al d (by simp)
      have ba := dig_bound ha
      have bb := dig_bound hb
      have bc := dig_bound hc
      have s1 := d1 0 0 (by omega) (by omega) (by omega) (by rw [g0]; exact ha)
      have s2 := d1 (dig a) 1 (by omega) (by omega) (by omega) (by rw [g1]; exact hb)
      have s3 := d1 (10 * dig a + dig b) 2 (by omega) (by omega) (by omega) (by rw [g2]; exact hc)
      rw [g0] at s1
      rw [g1] at s2
      rw [g2] at s3
      rw [iter_next s1, show 10 * 0 + dig a = dig a by omega, iter_next s2, iter_next s3]
      exact iter_end (form_many hs (by omega) (by rw [g3]; exact hd))
theorem refParse_at {s : List UInt8} (hs : s.length < 4611686018427387904) : F_ref04_Parse [.s s] = some [.i (pparse s).1, .i (pparse s).2] := by
  unfold F_ref04_Parse pparse
  by_cases h0 : 0 < s.length
  · by_cases h45 : (s.getD 0 0).toNat = 45
    · have hf := form_at (s := s.drop 1) (by simp; omega)
      have ht : (s.drop 1).take (s.length - 1) = s.drop 1 := List.take_of_length_le (by simp)
      rw [if_pos ⟨h0, h45⟩]
      simp (disch := omega) only [onI_c, onS_c, onB_c, onN_c, onL_c, Option.bind_some, Option.map_some, cond_true, cond_false, ↓onI_c, ↓onS_c, ↓onB_c, ↓onN_c, ↓onL_c, ↓Option.bind_some, ↓cond_true, ↓cond_false, decide_eq_true, decide_eq_false, Bool.not_true, Bool.not_false, Int.toNat_natCast, List.length_append, List.length_cons, List.length_nil, List.drop_zero, Nat.zero_add, Nat.add_zero, decT, decF, bneI_t, bneI_f, ht, hf]
      cases hp : psplit (s.drop 1) with
      | none => rfl
      | some t =>
        obtain ⟨x, y, z⟩ := t
        have := psplit_bound hp
        unfold psum2 psum pres
        dsimp only
        rw [if_pos rfl]
        by_cases hz : 3600 * x + 60 * y + z = 0
        · rw [if_pos hz]
          simp (disch := omega) only [onI_c, onS_c, onB_c, onN_c, onL_c, Option.bind_some, Option.map_some, cond_true, cond_false, ↓onI_c, ↓onS_c, ↓onB_c, ↓onN_c, ↓onL_c, ↓Option.bind_some, ↓cond_true, ↓cond_false, decide_eq_true, decide_eq_false, Bool.not_true, Bool.not_false, Int.toNat_natCast, List.length_append, List.length_cons, List.length_nil, List.drop_zero, Nat.zero_add, Nat.add_zero, decT, decF, bneI_t, bneI_f]
        · rw [if_neg hz]
          by_cases hb : 3600 * x + 60 * y + z > 604799
          · rw [if_pos hb]
            simp (disch := omega) only [onI_c, onS_c, onB_c, onN_c, onL_c, Option.bind_some, Option.map_some, cond_true, cond_false, ↓onI_c, ↓onS_c, ↓onB_c, ↓onN_c, ↓onL_c, ↓Option.bind_some, ↓cond_true, ↓cond_false, decide_eq_true, decide_eq_false, Bool.not_true, Bool.not_false, Int.toNat_natCast, List.length_append, List.length_cons, List.length_nil, List.drop_zero, Nat.zero_add, Nat.add_zero, decT, decF, bneI_t, bneI_f]
          · rw [if_neg hb]
            simp (disch := omega) only [onI_c, onS_c, onB_c, onN_c, onL_c, Option.bind_some, Option.map_some, cond_true, cond_false, ↓onI_c, ↓onS_c, ↓onB_c, ↓onN_c, ↓onL_c, ↓Option.bind_some, ↓cond_true, ↓cond_false, decide_eq_true, decide_eq_false, Bool.not_true, Bool.not_false, Int.toNat_natCast, List.length_append, List.length_cons, List.length_nil, List.drop_zero, Nat.zero_add, Nat.add_zero, decT, decF, bneI_t, bneI_f, i64_in]
            simp
    · have hf := form_at hs
      rw [if_neg (fun q => h45 q.2)]
      simp (disch := omega) only [onI_c, onS_c, onB_c, onN_c, onL_c, Option.bind_some, Option.map_some, cond_true, cond_false, ↓onI_c, ↓onS_c, ↓onB_c, ↓onN_c, ↓onL_c, ↓Option.bind_some, ↓cond_true, ↓cond_false, decide_eq_true, decide_eq_false, Bool.not_true, Bool.not_false, Int.toNat_natCast, List.length_append, List.length_cons, List.length_nil, List.drop_zero, Nat.zero_add, Nat.add_zero, decT, decF, bneI_t, bneI_f, hf]
      cases hp : psplit s with
      | none => rfl
      | some t =>
        obtain ⟨x, y, z⟩ := t
        have := psplit_bound hp
        unfold psum2 psum pres
        dsimp only
        rw [if_neg (by simp)]
        by_cases hb : 3600 * x + 60 * y + z > 604799
        · rw [if_pos hb]
          simp (disch := omega) only [onI_c, onS_c, onB_c, onN_c, onL_c, Option.bind_some, Option.map_some, cond_true, cond_false, ↓onI_c, ↓onS_c, ↓onB_c, ↓onN_c, ↓onL_c, ↓Option.bind_some, ↓cond_true, ↓cond_false, decide_eq_true, decide_eq_false, Bool.not_true, Bool.not_false, Int.toNat_natCast, List.length_append, List.length_cons, List.length_nil, List.drop_zero, Nat.zero_add, Nat.add_zero, decT, decF, bneI_t, bneI_f]
        · rw [if_neg hb]
          simp (disch := omega) only [onI_c, onS_c, onB_c, onN_c, onL_c, Option.bind_some, Option.map_some, cond_true, cond_false, ↓onI_c, ↓onS_c, ↓onB_c, ↓onN_c, ↓onL_c, ↓Option.bind_some, ↓cond_true, ↓cond_false, decide_eq_true, decide_eq_false, Bool.not_true, Bool.not_false, Int.toNat_natCast, List.length_append, List.length_cons, List.length_nil, List.drop_zero, Nat.zero_add, Nat.add_zero, decT, decF, bneI_t, bneI_f]
  · have hf := form_at hs
    rw [if_neg (fun q => h0 q.1)]
    have : s = [] := List.length_eq_zero_iff.1 (by omega)
    subst this
    simp (disch := omega) only [onI_c, onS_c, onB_c, onN_c, onL_c, Option.bind_some, Option.map_some, cond_true, cond_false, ↓onI_c, ↓onS_c, ↓onB_c, ↓onN_c, ↓onL_c, ↓Option.bind_some, ↓cond_true, ↓cond_false, decide_eq_true, decide_eq_false, Bool.not_true, Bool.not_false, Int.toNat_natCast, List.length_append, List.length_cons, List.length_nil, List.drop_zero, Nat.zero_add, Nat.add_zero, decT, decF, bneI_t, bneI_f, hf]
    rfl
end Go.Proofs.YtnfgmffcnmifkaaDoor
