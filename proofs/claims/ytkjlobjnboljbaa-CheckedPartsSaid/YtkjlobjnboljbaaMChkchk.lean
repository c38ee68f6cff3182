/-
  Checked numbers: what the functions compute.
-/
import Derived.Test.YtkjlobjnboljbaaFchk
import Derived.Test.YtkjlobjnboljbaaAxT
import Derived.Test.YtkjlobjnboljbaaAx32
namespace Go.Proofs.Ytkjlobjnboljbaa
open Go.Ax Go.Lib
set_option linter.all false
set_option maxHeartbeats 4000000
attribute [local congr] cond_cong bind_cong onI_cong onB_cong onS_cong onN_cong onL_cong

theorem kworks_at : F_law03_works [] = some [.b true] := rfl
/-- A number, if it fits. -/
def pr6 (v : Int) : List Dat := if In6 v then [.i v, .b true] else [.i 0, .b false]
theorem kwrap (x : Int) (h : -18446744073709551616 ≤ x ∧ x ≤ 18446744073709551615) : (In6 x ∧ i64 x = x) ∨ (9223372036854775807 < x ∧ i64 x = x - 18446744073709551616) ∨ (x < -9223372036854775808 ∧ i64 x = x + 18446744073709551616) := by
  rw [i64_eq]; unfold In6; omega
theorem kadd_at {a b : Int} (ha : In6 a) (hb : In6 b) : F_checked_Add [.i a, .i b] = some (pr6 (a + b)) := by
  unfold F_checked_Add pr6
  unfold In6 at ha hb
  rcases kwrap (a + b) (by omega) with ⟨h, e⟩ | ⟨h, e⟩ | ⟨h, e⟩
  · rw [if_pos h]
    by_cases hb0 : b < 0 <;> simp (disch := omega) only [onI_c, onS_c, onB_c, onN_c, onL_c, Option.bind_some, Option.map_some, cond_true, cond_false, ↓onI_c, ↓onS_c, ↓onB_c, ↓onN_c, ↓onL_c, ↓Option.bind_some, ↓cond_true, ↓cond_false, decide_eq_true, decide_eq_false, Bool.not_true, Bool.not_false, Int.toNat_natCast, List.length_append, List.length_cons, List.length_nil, List.drop_zero, Nat.zero_add, Nat.add_zero, decT, decF, bneI_t, bneI_f, e]
  · rw [if_neg (by unfold In6; omega)]
    simp (disch := omega) only [onI_c, onS_c, onB_c, onN_c, onL_c, Option.bind_some, Option.map_some, cond_true, cond_false, ↓onI_c, ↓onS_c, ↓onB_c, ↓onN_c, ↓onL_c, ↓Option.bind_some, ↓cond_true, ↓cond_false, decide_eq_true, decide_eq_false, Bool.not_true, Bool.not_false, Int.toNat_natCast, List.length_append, List.length_cons, List.length_nil, List.drop_zero, Nat.zero_add, Nat.add_zero, decT, decF, bneI_t, bneI_f, e]
  · rw [if_neg (by unfold In6; omega)]
    simp (disch := omega) only [onI_c, onS_c, onB_c, onN_c, onL_c, Option.bind_some, Option.map_some, cond_true, cond_false, ↓onI_c, ↓onS_c, ↓onB_c, ↓onN_c, ↓onL_c, ↓Option.bind_some, ↓cond_true, ↓cond_false, decide_eq_true, decide_eq_false, Bool.not_true, Bool.not_false, Int.toNat_natCast, List.length_append, List.length_cons, List.length_nil, List.drop_zero, Nat.zero_add, Nat.add_zero, decT, decF, bneI_t, bneI_f, e]
theorem kradd_at {a b : Int} (ha : In6 a) (hb : In6 b) : F_ref03_Add [.i a, .i b] = some (pr6 (a + b)) := by
  unfold F_ref03_Add pr6
  unfold In6 at ha hb
  by_cases h1 : 0 < b
  · have e1 := i64_in (9223372036854775807 - b) (by omega)
    by_cases h2 : 9223372036854775807 - b < a
    · rw [if_neg (by unfold In6; omega)]
      simp (disch := omega) only [onI_c, onS_c, onB_c, onN_c, onL_c, Option.bind_some, Option.map_some, cond_true, cond_false, ↓onI_c, ↓onS_c, ↓onB_c, ↓onN_c, ↓onL_c, ↓Option.bind_some, ↓cond_true, ↓cond_false, decide_eq_true, decide_eq_false, Bool.not_true, Bool.not_false, Int.toNat_natCast, List.length_append, List.length_cons, List.length_nil, List.drop_zero, Nat.zero_add, Nat.add_zero, decT, decF, bneI_t, bneI_f, e1]
    · have e := i64_in (a + b) (by omega)
      rw [if_pos (by unfold In6; omega)]
      simp (disch := omega) only [onI_c, onS_c, onB_c, onN_c, onL_c, Option.bind_some, Option.map_some, cond_true, cond_false, ↓onI_c, ↓onS_c, ↓onB_c, ↓onN_c, ↓onL_c, ↓Option.bind_some, ↓cond_true, ↓cond_false, decide_eq_true, decide_eq_false, Bool.not_true, Bool.not_false, Int.toNat_natCast, List.length_append, List.length_cons, List.length_nil, List.drop_zero, Nat.zero_add, Nat.add_zero, decT, decF, bneI_t, bneI_f, e1, e]
  · by_cases h0 : b < 0
    · have e1 := i64_in (-9223372036854775808 - b) (by omega)
      by_cases h2 : a < -9223372036854775808 - b
      · rw [if_neg (by unfold In6; omega)]
        simp (disch := omega) only [onI_c, onS_c, onB_c, onN_c, onL_c, Option.bind_some, Option.map_some, cond_true, cond_false, ↓onI_c, ↓onS_c, ↓onB_c, ↓onN_c, ↓onL_c, ↓Option.bind_some, ↓cond_true, ↓cond_false, decide_eq_true, decide_eq_false, Bool.not_true, Bool.not_false, Int.toNat_natCast, List.length_append, List.length_cons, List.length_nil, List.drop_zero, Nat.zero_add, Nat.add_zero, decT, decF, bneI_t, bneI_f, e1]
      · have e := i64_in (a + b) (by omega)
        rw [if_pos (by unfold In6; omega)]
        simp (disch := omega) only [onI_c, onS_c, onB_c, onN_c, onL_c, Option.bind_some, Option.map_some, cond_true, cond_false, ↓onI_c, ↓onS_c, ↓onB_c, ↓onN_c, ↓onL_c, ↓Option.bind_some, ↓cond_true, ↓cond_false, decide_eq_true, decide_eq_false, Bool.not_true, Bool.not_false, Int.toNat_natCast, List.length_append, List.length_cons, List.length_nil, List.drop_zero, Nat.zero_add, Nat.add_zero, decT, decF, bneI_t, bneI_f, e1, e]
    · have e := i64_in (a + b) (by omega)
      rw [if_pos (by unfold In6; omega)]
      simp (disch := omega) only [onI_c, onS_c, onB_c, onN_c, onL_c, Option.bind_some, Option.map_some, cond_true, cond_false, ↓onI_c, ↓onS_c, ↓onB_c, ↓onN_c, ↓onL_c, ↓Option.bind_some, ↓cond_true, ↓cond_false, decide_eq_true, decide_eq_false, Bool.not_true, Bool.not_false, Int.toNat_natCast, List.length_append, List.length_cons, List.length_nil, List.drop_zero, Nat.zero_add, Nat.add_zero, decT, decF, bneI_t, bneI_f, e]
theorem ksub_at {a b : Int} (ha : In6 a) (hb : In6 b) : F_checked_Sub [.i a, .i b] = some (pr6 (a - b)) := by
  unfold F_checked_Sub pr6
  unfold In6 at ha hb
  rcases kwrap (a - b) (by omega) with ⟨h, e⟩ | ⟨h, e⟩ | ⟨h, e⟩
  · rw [if_pos h]
    by_cases hb0 : b < 0 <;> simp (disch := omega) only [onI_c, onS_c, onB_c, onN_c, onL_c, Option.bind_some, Option.map_some, cond_true, cond_false, ↓onI_c, ↓onS_c, ↓onB_c, ↓onN_c, ↓onL_c, ↓Option.bind_some, ↓cond_true, ↓cond_false, decide_eq_true, decide_eq_false, Bool.not_true, Bool.not_false, Int.toNat_natCast, List.length_append, List.length_cons, List.length_nil, List.drop_zero, Nat.zero_add, Nat.add_zero, decT, decF, bneI_t, bneI_f, e]
  · rw [if_neg (by unfold In6; omega)]
    simp (disch := omega) only [onI_c, onS_c, onB_c, onN_c, onL_c, Option.bind_some, Option.map_some, cond_true, cond_false, ↓onI_c, ↓onS_c, ↓onB_c, ↓onN_c, ↓onL_c, ↓Option.bind_some, ↓cond_true, ↓cond_false, decide_eq_true, decide_eq_false, Bool.not_true, Bool.not_false, Int.toNat_natCast, List.length_append, List.length_cons, List.length_nil, List.drop_zero, Nat.zero_add, Nat.add_zero, decT, decF, bneI_t, bneI_f, e]
  · rw [if_neg (by unfold In6; omega)]
    simp (disch := omega) only [onI_c, onS_c, onB_c, onN_c, onL_c, Option.bind_some, Option.map_some, cond_true, cond_false, ↓onI_c, ↓onS_c, ↓onB_c, ↓onN_c, ↓onL_c, ↓Option.bind_some, ↓cond_true, ↓cond_false, decide_eq_true, decide_eq_false, Bool.not_true, Bool.not_false, Int.toNat_natCast, List.length_append, List.length_cons, List.length_nil, List.drop_zero, Nat.zero_add, Nat.add_zero, decT, decF, bneI_t, bneI_f, e]
theorem krsub_at {a b : Int} (ha : In6 a) (hb : In6 b) : F_ref03_Sub [.i a, .i b] = some (pr6 (a - b)) := by
  unfold F_ref03_Sub pr6
  unfold In6 at ha hb
  by_cases h1 : 0 < b
  · have e1 := i64_in (-9223372036854775808 + b) (by omega)
    by_cases h2 : a < -9223372036854775808 + b
    · rw [if_neg (by unfold In6; omega)]
      simp (disch := omega) only [onI_c, onS_c, onB_c, onN_c, onL_c, Option.bind_some, Option.map_some, cond_true, cond_false, ↓onI_c, ↓onS_c, ↓onB_c, ↓onN_c, ↓onL_c, ↓Option.bind_some, ↓cond_true, ↓cond_false, decide_eq_true, decide_eq_false, Bool.not_true, Bool.not_false, Int.toNat_natCast, List.length_append, List.length_cons, List.length_nil, List.drop_zero, Nat.zero_add, Nat.add_zero, decT, decF, bneI_t, bneI_f, e1]
    · have e := i64_in (a - b) (by omega)
      rw [if_pos (by unfold In6; omega)]
      simp (disch := omega) only [onI_c, onS_c, onB_c, onN_c, onL_c, Option.bind_some, Option.map_some, cond_true, cond_false, ↓onI_c, ↓onS_c, ↓onB_c, ↓onN_c, ↓onL_c, ↓Option.bind_some, ↓cond_true, ↓cond_false, decide_eq_true, decide_eq_false, Bool.not_true, Bool.not_false, Int.toNat_natCast, List.length_append, List.length_cons, List.length_nil, List.drop_zero, Nat.zero_add, Nat.add_zero, decT, decF, bneI_t, bneI_f, e1, e]
  · by_cases h0 : b < 0
    · have e1 := i64_in (9223372036854775807 + b) (by omega)
      by_cases h2 : 9223372036854775807 + b < a
      · rw [if_neg (by unfold In6; omega)]
        simp (disch := omega) only [onI_c, onS_c, onB_c, onN_c, onL_c, Option.bind_some, Option.map_some, cond_true, cond_false, ↓onI_c, ↓onS_c, ↓onB_c, ↓onN_c, ↓onL_c, ↓Option.bind_some, ↓cond_true, ↓cond_false, decide_eq_true, decide_eq_false, Bool.not_true, Bool.not_false, Int.toNat_natCast, List.length_append, List.length_cons, List.length_nil, List.drop_zero, Nat.zero_add, Nat.add_zero, decT, decF, bneI_t, bneI_f, e1]
      · have e := i64_in (a - b) (by omega)
        rw [if_pos (by unfold In6; omega)]
        simp (disch := omega) only [onI_c, onS_c, onB_c, onN_c, onL_c, Option.bind_some, Option.map_some, cond_true, cond_false, ↓onI_c, ↓onS_c, ↓onB_c, ↓onN_c, ↓onL_c, ↓Option.bind_some, ↓cond_true, ↓cond_false, decide_eq_true, decide_eq_false, Bool.not_true, Bool.not_false, Int.toNat_natCast, List.length_append, List.length_cons, List.length_nil, List.drop_zero, Nat.zero_add, Nat.add_zero, decT, decF, bneI_t, bneI_f, e1, e]
    · have e := i64_in (a - b) (by omega)
      rw [if_pos (by unfold In6; omega)]
      simp (disch := omega) only [onI_c, onS_c, onB_c, onN_c, onL_c, Option.bind_some, Option.map_some, cond_true, cond_false, ↓onI_c, ↓onS_c, ↓onB_c, ↓onN_c, ↓onL_c, ↓Option.bind_some, ↓cond_true, ↓cond_false, decide_eq_true, decide_eq_false, Bool.not_true, Bool.not_false, Int.toNat_natCast, List.length_append, List.length_cons, List.length_nil, List.drop_zero, Nat.zero_add, Nat.add_zero, decT, decF, bneI_t, bneI_f, e]

/-! ## products -/
theorem kabs_mod {p b : Int} (hb : b ≠ 0) (b1 : -9223372036854775808 ≤ b) (b2 : b ≤ 9223372036854775807) : -9223372036854775808 < p.tmod b ∧ p.tmod b < 9223372036854775808 := by
  rcases Int.lt_or_gt_of_ne hb with h | h
  · have e : p.tmod b = p.tmod (-b) := by rw [Int.tmod_neg]
    have h1 := Int.tmod_lt_of_pos p (show 0 < -b by omega)
    have h2 := Int.lt_tmod_of_pos p (show 0 < -b by omega)
    rw [e]; omega
  · have h1 := Int.tmod_lt_of_pos p h
    have h2 := Int.lt_tmod_of_pos p h
    omega
theorem ktdiv_bd {p b : Int} (hb : b ≠ 0) (p1 : -9223372036854775808 ≤ p) (p2 : p ≤ 9223372036854775807) (h : ¬ (b = -1 ∧ p = -9223372036854775808)) : -9223372036854775808 ≤ p.tdiv b ∧ p.tdiv b ≤ 9223372036854775807 := by
  have m := Int.mul_tdiv_add_tmod p b
  have n : (p.tdiv b).natAbs = p.natAbs / b.natAbs := Int.natAbs_tdiv p b
  have l : p.natAbs / b.natAbs ≤ p.natAbs := Nat.div_le_self _ _
  by_cases hp : p = -9223372036854775808
  · by_cases h1 : b.natAbs = 1
    · obtain rfl : b = 1 := by omega
      rw [Int.tdiv_one]; omega
    · have l2 : p.natAbs / b.natAbs ≤ p.natAbs / 2 := Nat.div_le_div_left (by omega) (by omega)
      omega
  · omega
theorem kmul_lost {a b p k : Int} (hb : b ≠ 0) (b1 : -9223372036854775808 ≤ b) (b2 : b ≤ 9223372036854775807) (e : a * b = p + 18446744073709551616 * k) (hk : k ≠ 0) : p.tdiv b ≠ a := by
  intro h
  have m := Int.mul_tdiv_add_tmod p b
  have r := kabs_mod (p := p) hb b1 b2
  rw [h, Int.mul_comm] at m
  omega
theorem kwrap_mod (x : Int) : ∃ s k : Int, i64 x = s ∧ x = s + 18446744073709551616 * k ∧ -9223372036854775808 ≤ s ∧ s ≤ 9223372036854775807 := ⟨_, (x + 9223372036854775808) / 18446744073709551616, rfl, by rw [i64_eq]; omega, by rw [i64_eq]; omega, by rw [i64_eq]; omega⟩
theorem kmul_at {a b : Int} (ha : In6 a) (hb : In6 b) : F_checked_Mul [.i a, .i b] = some (pr6 (a * b)) := by
  unfold F_checked_Mul pr6
  unfold In6 at ha hb
  by_cases a0 : a = 0
  · subst a0
    rw [Int.zero_mul, if_pos (by unfold In6; omega)]
    simp (disch := omega) only [onI_c, onS_c, onB_c, onN_c, onL_c, Option.bind_some, Option.map_some, cond_true, cond_false, ↓onI_c, ↓onS_c, ↓onB_c, ↓onN_c, ↓onL_c, ↓Option.bind_some, ↓cond_true, ↓cond_false, decide_eq_true, decide_eq_false, Bool.not_true, Bool.not_false, Int.toNat_natCast, List.length_append, List.length_cons, List.length_nil, List.drop_zero, Nat.zero_add, Nat.add_zero, decT, decF, bneI_t, bneI_f]
  by_cases b0 : b = 0
  · subst b0
    rw [Int.mul_zero, if_pos (by unfold In6; omega)]
    simp (disch := omega) only [onI_c, onS_c, onB_c, onN_c, onL_c, Option.bind_some, Option.map_some, cond_true, cond_false, ↓onI_c, ↓onS_c, ↓onB_c, ↓onN_c, ↓onL_c, ↓Option.bind_some, ↓cond_true, ↓cond_false, decide_eq_true, decide_eq_false, Bool.not_true, Bool.not_false, Int.toNat_natCast, List.length_append, List.length_cons, List.length_nil, List.drop_zero, Nat.zero_add, Nat.add_zero, decT, decF, bneI_t, bneI_f]
  obtain ⟨p, k, hp, hpk, p1, p2⟩ := kwrap_mod (a * b)
  by_cases h : In6 (a * b)
  · rw [if_pos h]
    have e : i64 (a * b) = a * b := i64_in _ h
    have qd : (a * b).tdiv b = a := Int.mul_tdiv_cancel _ b0
    have ea := i64_in a ha
    have qn : ¬ (b = -1 ∧ a = -9223372036854775808) := by rintro ⟨rfl, rfl⟩; unfold In6 at h; omega
    by_cases b1 : b = -1
    · have a1 : a ≠ -9223372036854775808 := fun q => qn ⟨b1, q⟩
      simp (disch := first | assumption | omega) only [onI_c, onS_c, onB_c, onN_c, onL_c, Option.bind_some, Option.map_some, cond_true, cond_false, ↓onI_c, ↓onS_c, ↓onB_c, ↓onN_c, ↓onL_c, ↓Option.bind_some, ↓cond_true, ↓cond_false, decide_eq_true, decide_eq_false, Bool.not_true, Bool.not_false, Int.toNat_natCast, List.length_append, List.length_cons, List.length_nil, List.drop_zero, Nat.zero_add, Nat.add_zero, decT, decF, bneI_t, bneI_f, e, qd, ea]
    · simp (disch := first | assumption | omega) only [onI_c, onS_c, onB_c, onN_c, onL_c, Option.bind_some, Option.map_some, cond_true, cond_false, ↓onI_c, ↓onS_c, ↓onB_c, ↓onN_c, ↓onL_c, ↓Option.bind_some, ↓cond_true, ↓cond_false, decide_eq_true, decide_eq_false, Bool.not_true, Bool.not_false, Int.toNat_natCast, List.length_append, List.length_cons, List.length_nil, List.drop_zero, Nat.zero_add, Nat.add_zero, decT, decF, bneI_t, bneI_f, e, qd, ea]
  · rw [if_neg h]
    have hk : k ≠ 0 := by rintro rfl; exact h (by unfold In6; omega)
    have qd := kmul_lost b0 hb.1 hb.2 hpk hk
    by_cases hm : b = -1 ∧ p = -9223372036854775808
    · obtain ⟨rfl, rfl⟩ := hm
      have ea : a = -9223372036854775808 := by omega
      subst ea
      have e2 : i64 ((-9223372036854775808 : Int).tdiv (-1)) = -9223372036854775808 := by rw [i64_eq]; rfl
      simp (disch := first | assumption | omega) only [onI_c, onS_c, onB_c, onN_c, onL_c, Option.bind_some, Option.map_some, cond_true, cond_false, ↓onI_c, ↓onS_c, ↓onB_c, ↓onN_c, ↓onL_c, ↓Option.bind_some, ↓cond_true, ↓cond_false, decide_eq_true, decide_eq_false, Bool.not_true, Bool.not_false, Int.toNat_natCast, List.length_append, List.length_cons, List.length_nil, List.drop_zero, Nat.zero_add, Nat.add_zero, decT, decF, bneI_t, bneI_f, hp, e2]
    · have hq := ktdiv_bd b0 p1 p2 hm
      have e2 := i64_in (p.tdiv b) hq
      simp (disch := first | assumption | omega) only [onI_c, onS_c, onB_c, onN_c, onL_c, Option.bind_some, Option.map_some, cond_true, cond_false, ↓onI_c, ↓onS_c, ↓onB_c, ↓onN_c, ↓onL_c, ↓Option.bind_some, ↓cond_true, ↓cond_false, decide_eq_true, decide_eq_false, Bool.not_true, Bool.not_false, Int.toNat_natCast, List.length_append, List.length_cons, List.length_nil, List.drop_zero, Nat.zero_add, Nat.add_zero, decT, decF, bneI_t, bneI_f, hp, e2]
theorem kand32 (x : Int) (h : 0 ≤ x ∧ x ≤ 18446744073709551615) : arith .and .u64 x 4294967295 = x % 4294967296 := by
  obtain ⟨n, rfl⟩ := Int.eq_ofNat_of_zero_le h.1
  have hn : n < 18446744073709551616 := by omega
  show IntKind.wrap .u64 (((BitVec.ofInt 64 (n : Int) &&& BitVec.ofInt 64 4294967295).toNat : Nat) : Int) = _
  rw [BitVec.toNat_and]
  have e1 : (BitVec.ofInt 64 (n : Int)).toNat = n := by rw [BitVec.ofInt_natCast, BitVec.toNat_ofNat]; exact Nat.mod_eq_of_lt hn
  have e2 : (BitVec.ofInt 64 4294967295).toNat = 2 ^ 32 - 1 := by decide
  rw [e1, e2, Nat.and_two_pow_sub_one_eq_mod]
  have := u64_in ((n % 2 ^ 32 : Nat) : Int) (by omega)
  unfold u64 at this
  rw [this]; omega
theorem kshr32 (x : Int) : arith .shr .u64 x 32 = x / 4294967296 := by
  show x.fdiv (2 ^ 32) = _
  rw [Int.fdiv_eq_ediv_of_nonneg _ (by decide)]; rfl
theorem kmul64_at {x y : Int} (hx : 0 ≤ x ∧ x ≤ 18446744073709551615) (hy : 0 ≤ y ∧ y ≤ 18446744073709551615) : F_math_bits_Mul64 [.i x, .i y] = some [.i (x * y / 18446744073709551616), .i (x * y % 18446744073709551616)] := by
  unfold F_math_bits_Mul64
  simp only [onI_c, kshr32]
  rw [kand32 x hx, kand32 y hy]
  have ex : x = x / 4294967296 * 4294967296 + x % 4294967296 := by omega
  have ey : y = y / 4294967296 * 4294967296 + y % 4294967296 := by omega
  have bx0 : 0 ≤ x / 4294967296 ∧ x / 4294967296 ≤ 4294967295 := by omega
  have bx1 : 0 ≤ x % 4294967296 ∧ x % 4294967296 ≤ 4294967295 := by omega
  have by0 : 0 ≤ y / 4294967296 ∧ y / 4294967296 ≤ 4294967295 := by omega
  have by1 : 0 ≤ y % 4294967296 ∧ y % 4294967296 ≤ 4294967295 := by omega
  have el := u64_eq (x * y)
  generalize x / 4294967296 = x1 at *
  generalize x % 4294967296 = x0 at *
  generalize y / 4294967296 = y1 at *
  generalize y % 4294967296 = y0 at *
  have exy : x * y = x1 * y1 * 18446744073709551616 + (x1 * y0 + x0 * y1) * 4294967296 + x0 * y0 := by
    rw [ex, ey]
    simp only [Int.add_mul, Int.mul_add]
    have e1 : x1 * 4294967296 * (y1 * 4294967296) = x1 * y1 * 18446744073709551616 := by rw [Int.mul_assoc, Int.mul_left_comm 4294967296 y1, ← Int.mul_assoc]; rfl
    have e2 : x1 * 4294967296 * y0 = x1 * y0 * 4294967296 := by rw [Int.mul_right_comm]
    have e3 : x0 * (y1 * 4294967296) = x0 * y1 * 4294967296 := by rw [Int.mul_assoc]
    rw [e1, e2, e3]; omega
  have bd : ∀ {u v : Int}, (0 ≤ u ∧ u ≤ 4294967295) → (0 ≤ v ∧ v ≤ 4294967295) → 0 ≤ u * v ∧ u * v ≤ 18446744065119617025 := by
    intro u v hu hv
    exact ⟨Int.mul_nonneg hu.1 hv.1, Int.le_trans (Int.mul_le_mul hu.2 hv.2 hv.1 (by omega)) (by decide)⟩
  have b11 := bd bx0 by0
  have b10 := bd bx0 by1
  have b01 := bd bx1 by0
  have b00 := bd bx1 by1
  rw [el, exy]
  generalize x1 * y1 = p11 at *
  generalize x1 * y0 = p10 at *
  generalize x0 * y1 = p01 at *
  generalize x0 * y0 = p00 at *
  rw [u64_in p11 (by omega), u64_in p10 (by omega), u64_in p00 (by omega), u64_in p01 (by omega), u64_in (p10 + p00 / 4294967296) (by omega)]
  rw [kand32 (p10 + p00 / 4294967296) (by omega), u64_in ((p10 + p00 / 4294967296) % 4294967296 + p01) (by omega), u64_in (p11 + (p10 + p00 / 4294967296) / 4294967296) (by omega), u64_in _ (by omega)]
  congr 3
  omega
theorem ksize_at {a : Int} (ha : In6 a) : F_ref03_size [.i a] = some [.i ((a.natAbs : Nat) : Int)] := by
  unfold F_ref03_size
  unfold In6 at ha
  by_cases h : 0 ≤ a
  · have e := u64_in a (by omega)
    simp (disch := omega) only [onI_c, onS_c, onB_c, onN_c, onL_c, Option.bind_some, Option.map_some, cond_true, cond_false, ↓onI_c, ↓onS_c, ↓onB_c, ↓onN_c, ↓onL_c, ↓Option.bind_some, ↓cond_true, ↓cond_false, decide_eq_true, decide_eq_false, Bool.not_true, Bool.not_false, Int.toNat_natCast, List.length_append, List.length_cons, List.length_nil, List.drop_zero, Nat.zero_add, Nat.add_zero, decT, decF, bneI_t, bneI_f, e]
    rw [Int.natAbs_of_nonneg h]
  · have e1 := i64_in (a + 1) (by omega)
    have e2 := i64_in (0 - (a + 1)) (by omega)
    have e3 := u64_in (0 - (a + 1)) (by omega)
    have e5 : 0 - (a + 1) + 1 = ((a.natAbs : Nat) : Int) := by omega
    have e4 := u64_in ((a.natAbs : Nat) : Int) (by omega)
    simp (disch := omega) only [onI_c, onS_c, onB_c, onN_c, onL_c, Option.bind_some, Option.map_some, cond_true, cond_false, ↓onI_c, ↓onS_c, ↓onB_c, ↓onN_c, ↓onL_c, ↓Option.bind_some, ↓cond_true, ↓cond_false, decide_eq_true, decide_eq_false, Bool.not_true, Bool.not_false, Int.toNat_natCast, List.length_append, List.length_cons, List.length_nil, List.drop_zero, Nat.zero_add, Nat.add_zero, decT, decF, bneI_t, bneI_f, e1, e2, e3, e4, e5]
theorem kabs_same {a b : Int} (h : a < 0 ↔ b < 0) : ((a.natAbs : Nat) : Int) * ((b.natAbs : Nat) : Int) = a * b := by
  by_cases ha : a < 0
  · rw [show ((a.natAbs : Nat) : Int) = -a by omega, show ((b.natAbs : Nat) : Int) = -b by omega, Int.neg_mul_neg]
  · rw [show ((a.natAbs : Nat) : Int) = a by omega, show ((b.natAbs : Nat) : Int) = b by omega]
theorem kabs_oth {a b : Int} (h : ¬ (a < 0 ↔ b < 0)) : ((a.natAbs : Nat) : Int) * ((b.natAbs : Nat) : Int) = -(a * b) := by
  by_cases ha : a < 0
  · rw [show ((a.natAbs : Nat) : Int) = -a by omega, show ((b.natAbs : Nat) : Int) = b by omega, Int.neg_mul]
  · rw [show ((a.natAbs : Nat) : Int) = a by omega, show ((b.natAbs : Nat) : Int) = -b by omega, Int.mul_neg]
theorem krmul_at {a b : Int} (ha : In6 a) (hb : In6 b) : F_ref03_Mul [.i a, .i b] = some (pr6 (a * b)) := by
  unfold F_ref03_Mul pr6
  have s1 := ksize_at ha
  have s2 := ksize_at hb
  unfold In6 at ha hb
  have m1 := kmul64_at (x := ((a.natAbs : Nat) : Int)) (y := ((b.natAbs : Nat) : Int)) (by omega) (by omega)
  have hn : 0 ≤ ((a.natAbs : Nat) : Int) * ((b.natAbs : Nat) : Int) := Int.mul_nonneg (by omega) (by omega)
  by_cases h : a < 0 ↔ b < 0
  · have e := kabs_same h
    generalize ((a.natAbs : Nat) : Int) * ((b.natAbs : Nat) : Int) = m at *
    by_cases hf : In6 (a * b)
    · rw [if_pos hf]
      unfold In6 at hf
      have e2 : m % 18446744073709551616 = m := by omega
      have e3 : m / 18446744073709551616 = 0 := by omega
      have e4 := i64_in m (by omega)
      rw [e2, e3] at m1
      by_cases h0 : a < 0
      · have h1 : b < 0 := h.1 h0
        simp (disch := first | assumption | omega) only [onI_c, onS_c, onB_c, onN_c, onL_c, Option.bind_some, Option.map_some, cond_true, cond_false, ↓onI_c, ↓onS_c, ↓onB_c, ↓onN_c, ↓onL_c, ↓Option.bind_some, ↓cond_true, ↓cond_false, decide_eq_true, decide_eq_false, Bool.not_true, Bool.not_false, Int.toNat_natCast, List.length_append, List.length_cons, List.length_nil, List.drop_zero, Nat.zero_add, Nat.add_zero, decT, decF, bneI_t, bneI_f, s1, s2, m1, e4]
        rw [e]
      · have h1 : ¬ b < 0 := fun q => h0 (h.2 q)
        simp (disch := first | assumption | omega) only [onI_c, onS_c, onB_c, onN_c, onL_c, Option.bind_some, Option.map_some, cond_true, cond_false, ↓onI_c, ↓onS_c, ↓onB_c, ↓onN_c, ↓onL_c, ↓Option.bind_some, ↓cond_true, ↓cond_false, decide_eq_true, decide_eq_false, Bool.not_true, Bool.not_false, Int.toNat_natCast, List.length_append, List.length_cons, List.length_nil, List.drop_zero, Nat.zero_add, Nat.add_zero, decT, decF, bneI_t, bneI_f, s1, s2, m1, e4]
        rw [e]
    · rw [if_neg hf]
      have hf' : ¬ (0 < m / 18446744073709551616) → 9223372036854775807 < m % 18446744073709551616 := by
        intro q
        unfold In6 at hf
        omega
      by_cases hq : 0 < m / 18446744073709551616
      · by_cases h0 : a < 0
        · have h1 : b < 0 := h.1 h0
          simp (disch := first | assumption | omega) only [onI_c, onS_c, onB_c, onN_c, onL_c, Option.bind_some, Option.map_some, cond_true, cond_false, ↓onI_c, ↓onS_c, ↓onB_c, ↓onN_c, ↓onL_c, ↓Option.bind_some, ↓cond_true, ↓cond_false, decide_eq_true, decide_eq_false, Bool.not_true, Bool.not_false, Int.toNat_natCast, List.length_append, List.length_cons, List.length_nil, List.drop_zero, Nat.zero_add, Nat.add_zero, decT, decF, bneI_t, bneI_f, s1, s2, m1]
        · have h1 : ¬ b < 0 := fun q => h0 (h.2 q)
          simp (disch := first | assumption | omega) only [onI_c, onS_c, onB_c, onN_c, onL_c, Option.bind_some, Option.map_some, cond_true, cond_false, ↓onI_c, ↓onS_c, ↓onB_c, ↓onN_c, ↓onL_c, ↓Option.bind_some, ↓cond_true, ↓cond_false, decide_eq_true, decide_eq_false, Bool.not_true, Bool.not_false, Int.toNat_natCast, List.length_append, List.length_cons, List.length_nil, List.drop_zero, Nat.zero_add, Nat.add_zero, decT, decF, bneI_t, bneI_f, s1, s2, m1]
      · have hr := hf' hq
        by_cases h0 : a < 0
        · have h1 : b < 0 := h.1 h0
          simp (disch := first | assumption | omega) only [onI_c, onS_c, onB_c, onN_c, onL_c, Option.bind_some, Option.map_some, cond_true, cond_false, ↓onI_c, ↓onS_c, ↓onB_c, ↓onN_c, ↓onL_c, ↓Option.bind_some, ↓cond_true, ↓cond_false, decide_eq_true, decide_eq_false, Bool.not_true, Bool.not_false, Int.toNat_natCast, List.length_append, List.length_cons, List.length_nil, List.drop_zero, Nat.zero_add, Nat.add_zero, decT, decF, bneI_t, bneI_f, s1, s2, m1]
        · have h1 : ¬ b < 0 := fun q => h0 (h.2 q)
          simp (disch := first | assumption | omega) only [onI_c, onS_c, onB_c, onN_c, onL_c, Option.bind_some, Option.map_some, cond_true, cond_false, ↓onI_c, ↓onS_c, ↓onB_c, ↓onN_c, ↓onL_c, ↓Option.bind_some, ↓cond_true, ↓cond_false, decide_eq_true, decide_eq_false, Bool.not_true, Bool.not_false, Int.toNat_natCast, List.length_append, List.length_cons, List.length_nil, List.drop_zero, Nat.zero_add, Nat.add_zero, decT, decF, bneI_t, bneI_f, s1, s2, m1]
  · have e := kabs_oth h
    generalize ((a.natAbs : Nat) : Int) * ((b.natAbs : Nat) : Int) = m at *
    have h2 : (a < 0 ∧ ¬ b < 0) ∨ (¬ a < 0 ∧ b < 0) := by omega
    by_cases hf : In6 (a * b)
    · rw [if_pos hf]
      unfold In6 at hf
      have e2 : m % 18446744073709551616 = m := by omega
      have e3 : m / 18446744073709551616 = 0 := by omega
      rw [e2, e3] at m1
      have e9 : a * b = -m := by omega
      rw [e9]
      by_cases h0 : m = 0
      · rcases h2 with ⟨h3, h4⟩ | ⟨h3, h4⟩ <;> simp (disch := first | assumption | omega) only [onI_c, onS_c, onB_c, onN_c, onL_c, Option.bind_some, Option.map_some, cond_true, cond_false, ↓onI_c, ↓onS_c, ↓onB_c, ↓onN_c, ↓onL_c, ↓Option.bind_some, ↓cond_true, ↓cond_false, decide_eq_true, decide_eq_false, Bool.not_true, Bool.not_false, Int.toNat_natCast, List.length_append, List.length_cons, List.length_nil, List.drop_zero, Nat.zero_add, Nat.add_zero, decT, decF, bneI_t, bneI_f, s1, s2, m1] <;> rw [h0] <;> rfl
      · have e4 := u64_in (m - 1) (by omega)
        have e5 := i64_in (m - 1) (by omega)
        have e6 := i64_in (0 - (m - 1)) (by omega)
        have e7 := i64_in (0 - (m - 1) - 1) (by omega)
        have e8 : 0 - (m - 1) - 1 = -m := by omega
        have e10 := i64_in (-m) (by omega)
        rcases h2 with ⟨h3, h4⟩ | ⟨h3, h4⟩ <;> simp (disch := first | assumption | omega) only [onI_c, onS_c, onB_c, onN_c, onL_c, Option.bind_some, Option.map_some, cond_true, cond_false, ↓onI_c, ↓onS_c, ↓onB_c, ↓onN_c, ↓onL_c, ↓Option.bind_some, ↓cond_true, ↓cond_false, decide_eq_true, decide_eq_false, Bool.not_true, Bool.not_false, Int.toNat_natCast, List.length_append, List.length_cons, List.length_nil, List.drop_zero, Nat.zero_add, Nat.add_zero, decT, decF, bneI_t, bneI_f, s1, s2, m1, e4, e5, e6, e8, e10]
    · rw [if_neg hf]
      by_cases hq : 0 < m / 18446744073709551616
      · rcases h2 with ⟨h3, h4⟩ | ⟨h3, h4⟩ <;> simp (disch := first | assumption | omega) only [onI_c, onS_c, onB_c, onN_c, onL_c, Option.bind_some, Option.map_some, cond_true, cond_false, ↓onI_c, ↓onS_c, ↓onB_c, ↓onN_c, ↓onL_c, ↓Option.bind_some, ↓cond_true, ↓cond_false, decide_eq_true, decide_eq_false, Bool.not_true, Bool.not_false, Int.toNat_natCast, List.length_append, List.length_cons, List.length_nil, List.drop_zero, Nat.zero_add, Nat.add_zero, decT, decF, bneI_t, bneI_f, s1, s2, m1]
      · have hr : 9223372036854775808 < m % 18446744073709551616 := by unfold In6 at hf; omega
        rcases h2 with ⟨h3, h4⟩ | ⟨h3, h4⟩ <;> simp (disch := first | assumption | omega) only [onI_c, onS_c, onB_c, onN_c, onL_c, Option.bind_some, Option.map_some, cond_true, cond_false, ↓onI_c, ↓onS_c, ↓onB_c, ↓onN_c, ↓onL_c, ↓Option.bind_some, ↓cond_true, ↓cond_false, decide_eq_true, decide_eq_false, Bool.not_true, Bool.not_false, Int.toNat_natCast, List.length_append, List.length_cons, List.length_nil, List.drop_zero, Nat.zero_add, Nat.add_zero, decT, decF, bneI_t, bneI_f, s1, s2, m1]

/-! ## quotients -/
theorem kfdiv_zero {a b : Int} (h : a.tmod b = 0) : a.fdiv b = a.tdiv b := by
  rw [Int.fdiv_eq_tdiv, if_pos (Int.dvd_of_tmod_eq_zero h), Int.sub_zero]
theorem kfdiv_same {a b : Int} (hb : b ≠ 0) (h : (a < 0) ↔ (b < 0)) : a.fdiv b = a.tdiv b := by
  rw [Int.fdiv_eq_tdiv]
  split
  · omega
  · by_cases ha : a < 0
    · have := Int.sign_eq_neg_one_of_neg (h.1 ha)
      rw [if_neg (by omega), if_neg (by omega)]; omega
    · rw [if_pos (by omega), if_pos (by omega)]; omega
theorem kfdiv_other {a b : Int} (hb : b ≠ 0) (ht : a.tmod b ≠ 0) (h : ¬ ((a < 0) ↔ (b < 0))) : a.fdiv b = a.tdiv b - 1 := by
  rw [Int.fdiv_eq_tdiv, if_neg (fun d => ht (Int.tmod_eq_zero_of_dvd d))]
  by_cases ha : a < 0
  · have := Int.sign_eq_one_of_pos (show 0 < b by omega)
    rw [if_neg (by omega), if_pos (by omega)]; omega
  · rw [if_pos (by omega), if_neg (by omega)]
theorem kfmod_def (a b : Int) : a.fmod b = a - b * a.fdiv b := by have := Int.mul_fdiv_add_fmod a b; omega
theorem ktmod_def (a b : Int) : a.tmod b = a - b * a.tdiv b := by have := Int.mul_tdiv_add_tmod a b; omega
theorem kfmod_same {a b : Int} (h : a.fdiv b = a.tdiv b) : a.fmod b = a.tmod b := by rw [kfmod_def, ktmod_def, h]
theorem kfmod_other {a b : Int} (h : a.fdiv b = a.tdiv b - 1) : a.fmod b = a.tmod b + b := by rw [kfmod_def, ktmod_def, h, Int.mul_sub, Int.mul_one]; omega
theorem kfdiv_bd {a b : Int} (hb : b ≠ 0) (a1 : -9223372036854775808 ≤ a) (a2 : a ≤ 9223372036854775807) (ht : a.tmod b ≠ 0) : -9223372036854775808 ≤ a.tdiv b - 1 ∧ a.tdiv b - 1 ≤ 9223372036854775807 := by
  have n : (a.tdiv b).natAbs = a.natAbs / b.natAbs := Int.natAbs_tdiv a b
  have hb1 : b.natAbs ≠ 1 := by
    intro e
    have : b = 1 ∨ b = -1 := by omega
    rcases this with rfl | rfl
    · rw [Int.tmod_one] at ht; exact ht rfl
    · rw [Int.tmod_neg, Int.tmod_one] at ht; exact ht rfl
  have l2 : a.natAbs / b.natAbs ≤ a.natAbs / 2 := Nat.div_le_div_left (by omega) (by omega)
  omega
theorem kdiv0_at (a : Int) : F_checked_Div [.i a, .i 0] = some [.i 0, .b false] := by
  unfold F_checked_Div
  simp (disch := omega) only [onI_c, onS_c, onB_c, onN_c, onL_c, Option.bind_some, Option.map_some, cond_true, cond_false, ↓onI_c, ↓onS_c, ↓onB_c, ↓onN_c, ↓onL_c, ↓Option.bind_some, ↓cond_true, ↓cond_false, decide_eq_true, decide_eq_false, Bool.not_true, Bool.not_false, Int.toNat_natCast, List.length_append, List.length_cons, List.length_nil, List.drop_zero, Nat.zero_add, Nat.add_zero, decT, decF, bneI_t, bneI_f]
theorem kdiv_at {a b : Int} (ha : In6 a) (hb : In6 b) (b0 : b ≠ 0) : F_checked_Div [.i a, .i b] = some (pr6 (a.fdiv b)) := by
  unfold F_checked_Div pr6
  unfold In6 at ha hb
  by_cases hm : b = -1 ∧ a = -9223372036854775808
  · obtain ⟨rfl, rfl⟩ := hm
    rw [if_neg (by decide)]
    simp (disch := omega) only [onI_c, onS_c, onB_c, onN_c, onL_c, Option.bind_some, Option.map_some, cond_true, cond_false, ↓onI_c, ↓onS_c, ↓onB_c, ↓onN_c, ↓onL_c, ↓Option.bind_some, ↓cond_true, ↓cond_false, decide_eq_true, decide_eq_false, Bool.not_true, Bool.not_false, Int.toNat_natCast, List.length_append, List.length_cons, List.length_nil, List.drop_zero, Nat.zero_add, Nat.add_zero, decT, decF, bneI_t, bneI_f]
  · have hq := ktdiv_bd b0 ha.1 ha.2 hm
    have e1 := i64_in _ hq
    have key : (bif decide (a = -9223372036854775808) then (bif decide (b = -1) then some true else some false) else some false) = some false := by
      by_cases h1 : a = -9223372036854775808
      · have h2 : b ≠ -1 := fun q => hm ⟨q, h1⟩
        simp (disch := first | assumption | omega) only [onI_c, onS_c, onB_c, onN_c, onL_c, Option.bind_some, Option.map_some, cond_true, cond_false, ↓onI_c, ↓onS_c, ↓onB_c, ↓onN_c, ↓onL_c, ↓Option.bind_some, ↓cond_true, ↓cond_false, decide_eq_true, decide_eq_false, Bool.not_true, Bool.not_false, Int.toNat_natCast, List.length_append, List.length_cons, List.length_nil, List.drop_zero, Nat.zero_add, Nat.add_zero, decT, decF, bneI_t, bneI_f]
      · simp (disch := first | assumption | omega) only [onI_c, onS_c, onB_c, onN_c, onL_c, Option.bind_some, Option.map_some, cond_true, cond_false, ↓onI_c, ↓onS_c, ↓onB_c, ↓onN_c, ↓onL_c, ↓Option.bind_some, ↓cond_true, ↓cond_false, decide_eq_true, decide_eq_false, Bool.not_true, Bool.not_false, Int.toNat_natCast, List.length_append, List.length_cons, List.length_nil, List.drop_zero, Nat.zero_add, Nat.add_zero, decT, decF, bneI_t, bneI_f]
    by_cases ht : a.tmod b = 0
    · have e := kfdiv_zero ht
      rw [e, if_pos (show In6 _ from hq)]
      simp (disch := first | assumption | omega) only [onI_c, onS_c, onB_c, onN_c, onL_c, Option.bind_some, Option.map_some, cond_true, cond_false, ↓onI_c, ↓onS_c, ↓onB_c, ↓onN_c, ↓onL_c, ↓Option.bind_some, ↓cond_true, ↓cond_false, decide_eq_true, decide_eq_false, Bool.not_true, Bool.not_false, Int.toNat_natCast, List.length_append, List.length_cons, List.length_nil, List.drop_zero, Nat.zero_add, Nat.add_zero, decT, decF, bneI_t, bneI_f, ↓key, e1]
    · by_cases hs : (a < 0) ↔ (b < 0)
      · have e := kfdiv_same b0 hs
        rw [e, if_pos (show In6 _ from hq)]
        by_cases h0 : a < 0
        · have h1 := hs.1 h0
          simp (disch := first | assumption | omega) only [onI_c, onS_c, onB_c, onN_c, onL_c, Option.bind_some, Option.map_some, cond_true, cond_false, ↓onI_c, ↓onS_c, ↓onB_c, ↓onN_c, ↓onL_c, ↓Option.bind_some, ↓cond_true, ↓cond_false, decide_eq_true, decide_eq_false, Bool.not_true, Bool.not_false, Int.toNat_natCast, List.length_append, List.length_cons, List.length_nil, List.drop_zero, Nat.zero_add, Nat.add_zero, decT, decF, bneI_t, bneI_f, ↓key, e1]
        · have h1 : ¬ b < 0 := fun q => h0 (hs.2 q)
          simp (disch := first | assumption | omega) only [onI_c, onS_c, onB_c, onN_c, onL_c, Option.bind_some, Option.map_some, cond_true, cond_false, ↓onI_c, ↓onS_c, ↓onB_c, ↓onN_c, ↓onL_c, ↓Option.bind_some, ↓cond_true, ↓cond_false, decide_eq_true, decide_eq_false, Bool.not_true, Bool.not_false, Int.toNat_natCast, List.length_append, List.length_cons, List.length_nil, List.drop_zero, Nat.zero_add, Nat.add_zero, decT, decF, bneI_t, bneI_f, ↓key, e1]
      · have e := kfdiv_other b0 ht hs
        have hq2 := kfdiv_bd b0 ha.1 ha.2 ht
        have e2 := i64_in _ hq2
        rw [e, if_pos (show In6 _ from hq2)]
        have h2 : (a < 0 ∧ ¬ b < 0) ∨ (¬ a < 0 ∧ b < 0) := by omega
        rcases h2 with ⟨h3, h4⟩ | ⟨h3, h4⟩ <;> simp (disch := first | assumption | omega) only [onI_c, onS_c, onB_c, onN_c, onL_c, Option.bind_some, Option.map_some, cond_true, cond_false, ↓onI_c, ↓onS_c, ↓onB_c, ↓onN_c, ↓onL_c, ↓Option.bind_some, ↓cond_true, ↓cond_false, decide_eq_true, decide_eq_false, Bool.not_true, Bool.not_false, Int.toNat_natCast, List.length_append, List.length_cons, List.length_nil, List.drop_zero, Nat.zero_add, Nat.add_zero, decT, decF, bneI_t, bneI_f, ↓key, e1, e2]
theorem kmod0_at (a : Int) : F_checked_Mod [.i a, .i 0] = some [.i 0, .b false] := by
  unfold F_checked_Mod
  simp (disch := omega) only [onI_c, onS_c, onB_c, onN_c, onL_c, Option.bind_some, Option.map_some, cond_true, cond_false, ↓onI_c, ↓onS_c, ↓onB_c, ↓onN_c, ↓onL_c, ↓Option.bind_some, ↓cond_true, ↓cond_false, decide_eq_true, decide_eq_false, Bool.not_true, Bool.not_false, Int.toNat_natCast, List.length_append, List.length_cons, List.length_nil, List.drop_zero, Nat.zero_add, Nat.add_zero, decT, decF, bneI_t, bneI_f]
theorem ktd_same {a b : Int} (h : a < 0 ↔ b < 0) : a.tdiv b = ((a.natAbs / b.natAbs : Nat) : Int) := by
  by_cases ha : a < 0
  · have hb := h.1 ha
    generalize hx : a.natAbs = x
    generalize hy : b.natAbs = y
    rw [show a = -(x : Int) by omega, show b = -(y : Int) by omega, Int.neg_tdiv, Int.tdiv_neg, Int.neg_neg]; rfl
  · have hb : ¬ b < 0 := fun q => ha (h.2 q)
    generalize hx : a.natAbs = x
    generalize hy : b.natAbs = y
    rw [show a = (x : Int) by omega, show b = (y : Int) by omega]; rfl
theorem ktd_oth {a b : Int} (h : ¬ (a < 0 ↔ b < 0)) : a.tdiv b = -((a.natAbs / b.natAbs : Nat) : Int) := by
  by_cases ha : a < 0
  · have hb : ¬ b < 0 := by omega
    generalize hx : a.natAbs = x
    generalize hy : b.natAbs = y
    rw [show a = -(x : Int) by omega, show b = (y : Int) by omega, Int.neg_tdiv]; rfl
  · have hb : b < 0 := by omega
    generalize hx : a.natAbs = x
    generalize hy : b.natAbs = y
    rw [show a = (x : Int) by omega, show b = -(y : Int) by omega, Int.tdiv_neg]; rfl
theorem ktm (a b : Int) : a.tmod b = if a < 0 then -((a.natAbs % b.natAbs : Nat) : Int) else ((a.natAbs % b.natAbs : Nat) : Int) := by
  have hb : a.tmod b = a.tmod ((b.natAbs : Nat) : Int) := by
    by_cases h : b < 0
    · rw [show ((b.natAbs : Nat) : Int) = -b by omega, Int.tmod_neg]
    · rw [show ((b.natAbs : Nat) : Int) = b by omega]
  rw [hb]
  generalize b.natAbs = y
  split
  · generalize hx : a.natAbs = x
    rw [show a = -(x : Int) by omega, Int.neg_tmod]; rfl
  · generalize hx : a.natAbs = x
    rw [show a = (x : Int) by omega]; rfl
theorem kmod_at {a b : Int} (ha : In6 a) (hb : In6 b) (b0 : b ≠ 0) : F_checked_Mod [.i a, .i b] = some [.i (a.fmod b), .b true] := by
  unfold F_checked_Mod
  unfold In6 at ha hb
  have hq := kabs_mod (p := a) b0 hb.1 hb.2
  have hr : a.natAbs % b.natAbs < b.natAbs := Nat.mod_lt _ (by omega)
  have hs := ktm a b
  by_cases ht : a.tmod b = 0
  · rw [kfmod_same (kfdiv_zero ht)]
    simp (disch := first | assumption | omega) only [onI_c, onS_c, onB_c, onN_c, onL_c, Option.bind_some, Option.map_some, cond_true, cond_false, ↓onI_c, ↓onS_c, ↓onB_c, ↓onN_c, ↓onL_c, ↓Option.bind_some, ↓cond_true, ↓cond_false, decide_eq_true, decide_eq_false, Bool.not_true, Bool.not_false, Int.toNat_natCast, List.length_append, List.length_cons, List.length_nil, List.drop_zero, Nat.zero_add, Nat.add_zero, decT, decF, bneI_t, bneI_f]
  · by_cases h : (a < 0) ↔ (b < 0)
    · rw [kfmod_same (kfdiv_same b0 h)]
      by_cases h0 : a < 0
      · have h1 := h.1 h0
        rw [if_pos h0] at hs
        have h2 : a.tmod b < 0 := by omega
        simp (disch := first | assumption | omega) only [onI_c, onS_c, onB_c, onN_c, onL_c, Option.bind_some, Option.map_some, cond_true, cond_false, ↓onI_c, ↓onS_c, ↓onB_c, ↓onN_c, ↓onL_c, ↓Option.bind_some, ↓cond_true, ↓cond_false, decide_eq_true, decide_eq_false, Bool.not_true, Bool.not_false, Int.toNat_natCast, List.length_append, List.length_cons, List.length_nil, List.drop_zero, Nat.zero_add, Nat.add_zero, decT, decF, bneI_t, bneI_f]
      · have h1 : ¬ b < 0 := fun q => h0 (h.2 q)
        rw [if_neg h0] at hs
        have h2 : ¬ a.tmod b < 0 := by omega
        simp (disch := first | assumption | omega) only [onI_c, onS_c, onB_c, onN_c, onL_c, Option.bind_some, Option.map_some, cond_true, cond_false, ↓onI_c, ↓onS_c, ↓onB_c, ↓onN_c, ↓onL_c, ↓Option.bind_some, ↓cond_true, ↓cond_false, decide_eq_true, decide_eq_false, Bool.not_true, Bool.not_false, Int.toNat_natCast, List.length_append, List.length_cons, List.length_nil, List.drop_zero, Nat.zero_add, Nat.add_zero, decT, decF, bneI_t, bneI_f]
    · rw [kfmod_other (kfdiv_other b0 ht h)]
      by_cases h0 : a < 0
      · have h1 : ¬ b < 0 := by omega
        rw [if_pos h0] at hs
        have h2 : a.tmod b < 0 := by omega
        have e := i64_in (a.tmod b + b) (by omega)
        simp (disch := first | assumption | omega) only [onI_c, onS_c, onB_c, onN_c, onL_c, Option.bind_some, Option.map_some, cond_true, cond_false, ↓onI_c, ↓onS_c, ↓onB_c, ↓onN_c, ↓onL_c, ↓Option.bind_some, ↓cond_true, ↓cond_false, decide_eq_true, decide_eq_false, Bool.not_true, Bool.not_false, Int.toNat_natCast, List.length_append, List.length_cons, List.length_nil, List.drop_zero, Nat.zero_add, Nat.add_zero, decT, decF, bneI_t, bneI_f, e]
      · have h1 : b < 0 := by omega
        rw [if_neg h0] at hs
        have h2 : ¬ a.tmod b < 0 := by omega
        have e := i64_in (a.tmod b + b) (by omega)
        simp (disch := first | assumption | omega) only [onI_c, onS_c, onB_c, onN_c, onL_c, Option.bind_some, Option.map_some, cond_true, cond_false, ↓onI_c, ↓onS_c, ↓onB_c, ↓onN_c, ↓onL_c, ↓Option.bind_some, ↓cond_true, ↓cond_false, decide_eq_true, decide_eq_false, Bool.not_true, Bool.not_false, Int.toNat_natCast, List.length_append, List.length_cons, List.length_nil, List.drop_zero, Nat.zero_add, Nat.add_zero, decT, decF, bneI_t, bneI_f, e]
theorem kparts_at {a b : Int} (ha : In6 a) (hb : In6 b) (b0 : b ≠ 0) : F_ref03_parts [.i a, .i b] = some [.i ((a.natAbs / b.natAbs : Nat) : Int), .i ((a.natAbs % b.natAbs : Nat) : Int)] := by
  unfold F_ref03_parts
  have s1 := ksize_at ha
  have s2 := ksize_at hb
  unfold In6 at ha hb
  have l : a.natAbs / b.natAbs ≤ a.natAbs := Nat.div_le_self _ _
  have e1 : Int.tdiv ((a.natAbs : Nat) : Int) ((b.natAbs : Nat) : Int) = ((a.natAbs / b.natAbs : Nat) : Int) := rfl
  have e2 : Int.tmod ((a.natAbs : Nat) : Int) ((b.natAbs : Nat) : Int) = ((a.natAbs % b.natAbs : Nat) : Int) := rfl
  have e3 : ∀ q : Nat, q ≤ a.natAbs → u64 (q : Int) = q := fun q h => u64_in _ (by omega)
  have e3 := e3 _ l
  have e4 : ((b.natAbs : Nat) : Int) ≠ 0 := by omega
  simp (disch := first | assumption | omega) only [onI_c, onS_c, onB_c, onN_c, onL_c, Option.bind_some, Option.map_some, cond_true, cond_false, ↓onI_c, ↓onS_c, ↓onB_c, ↓onN_c, ↓onL_c, ↓Option.bind_some, ↓cond_true, ↓cond_false, decide_eq_true, decide_eq_false, Bool.not_true, Bool.not_false, Int.toNat_natCast, List.length_append, List.length_cons, List.length_nil, List.drop_zero, Nat.zero_add, Nat.add_zero, decT, decF, bneI_t, bneI_f, s1, s2, e1, e2, e3]
theorem krdiv0_at (a : Int) : F_ref03_Div [.i a, .i 0] = some [.i 0, .b false] := by
  unfold F_ref03_Div
  simp (disch := omega) only [onI_c, onS_c, onB_c, onN_c, onL_c, Option.bind_some, Option.map_some, cond_true, cond_false, ↓onI_c, ↓onS_c, ↓onB_c, ↓onN_c, ↓onL_c, ↓Option.bind_some, ↓cond_true, ↓cond_false, decide_eq_true, decide_eq_false, Bool.not_true, Bool.not_false, Int.toNat_natCast, List.length_append, List.length_cons, List.length_nil, List.drop_zero, Nat.zero_add, Nat.add_zero, decT, decF, bneI_t, bneI_f]
theorem krdiv_at {a b : Int} (ha : In6 a) (hb : In6 b) (b0 : b ≠ 0) : F_ref03_Div [.i a, .i b] = some (pr6 (a.fdiv b)) := by
  unfold F_ref03_Div pr6
  have hp := kparts_at ha hb b0
  unfold In6 at ha hb
  have l : a.natAbs / b.natAbs ≤ a.natAbs := Nat.div_le_self _ _
  have hm := Nat.div_add_mod a.natAbs b.natAbs
  have hrl : a.natAbs % b.natAbs < b.natAbs := Nat.mod_lt _ (by omega)
  have l2 : 0 < a.natAbs % b.natAbs → a.natAbs / b.natAbs ≤ a.natAbs / 2 := fun q => Nat.div_le_div_left (by omega) (by omega)
  have e8 := ktm a b
  by_cases h : a < 0 ↔ b < 0
  · have e := kfdiv_same b0 h
    have e1 := ktd_same h
    rw [e, e1]
    generalize a.natAbs / b.natAbs = q at *
    by_cases hf : 9223372036854775807 < (q : Int)
    · rw [if_neg (by unfold In6; omega)]
      by_cases h0 : a < 0
      · have h1 := h.1 h0
        simp (disch := first | assumption | omega) only [onI_c, onS_c, onB_c, onN_c, onL_c, Option.bind_some, Option.map_some, cond_true, cond_false, ↓onI_c, ↓onS_c, ↓onB_c, ↓onN_c, ↓onL_c, ↓Option.bind_some, ↓cond_true, ↓cond_false, decide_eq_true, decide_eq_false, Bool.not_true, Bool.not_false, Int.toNat_natCast, List.length_append, List.length_cons, List.length_nil, List.drop_zero, Nat.zero_add, Nat.add_zero, decT, decF, bneI_t, bneI_f, hp]
      · have h1 : ¬ b < 0 := fun q => h0 (h.2 q)
        simp (disch := first | assumption | omega) only [onI_c, onS_c, onB_c, onN_c, onL_c, Option.bind_some, Option.map_some, cond_true, cond_false, ↓onI_c, ↓onS_c, ↓onB_c, ↓onN_c, ↓onL_c, ↓Option.bind_some, ↓cond_true, ↓cond_false, decide_eq_true, decide_eq_false, Bool.not_true, Bool.not_false, Int.toNat_natCast, List.length_append, List.length_cons, List.length_nil, List.drop_zero, Nat.zero_add, Nat.add_zero, decT, decF, bneI_t, bneI_f, hp]
    · rw [if_pos (by unfold In6; omega)]
      have e3 := i64_in (q : Int) (by omega)
      by_cases h0 : a < 0
      · have h1 := h.1 h0
        simp (disch := first | assumption | omega) only [onI_c, onS_c, onB_c, onN_c, onL_c, Option.bind_some, Option.map_some, cond_true, cond_false, ↓onI_c, ↓onS_c, ↓onB_c, ↓onN_c, ↓onL_c, ↓Option.bind_some, ↓cond_true, ↓cond_false, decide_eq_true, decide_eq_false, Bool.not_true, Bool.not_false, Int.toNat_natCast, List.length_append, List.length_cons, List.length_nil, List.drop_zero, Nat.zero_add, Nat.add_zero, decT, decF, bneI_t, bneI_f, hp, e3]
      · have h1 : ¬ b < 0 := fun q => h0 (h.2 q)
        simp (disch := first | assumption | omega) only [onI_c, onS_c, onB_c, onN_c, onL_c, Option.bind_some, Option.map_some, cond_true, cond_false, ↓onI_c, ↓onS_c, ↓onB_c, ↓onN_c, ↓onL_c, ↓Option.bind_some, ↓cond_true, ↓cond_false, decide_eq_true, decide_eq_false, Bool.not_true, Bool.not_false, Int.toNat_natCast, List.length_append, List.length_cons, List.length_nil, List.drop_zero, Nat.zero_add, Nat.add_zero, decT, decF, bneI_t, bneI_f, hp, e3]
  · have h2 : (a < 0 ∧ ¬ b < 0) ∨ (¬ a < 0 ∧ b < 0) := by omega
    have e1 := ktd_oth h
    by_cases ht : a.tmod b = 0
    · have e := kfdiv_zero ht
      have hr0 : a.natAbs % b.natAbs = 0 := by rw [ht] at e8; split at e8 <;> omega
      rw [e, e1]
      rw [hr0] at hp
      generalize a.natAbs / b.natAbs = q at *
      rw [if_pos (by unfold In6; omega)]
      by_cases h0 : (q : Int) = 0
      · have h0' : -(q : Int) = 0 := by omega
        rw [h0']
        rcases h2 with ⟨h3, h4⟩ | ⟨h3, h4⟩ <;> simp (disch := first | assumption | omega) only [onI_c, onS_c, onB_c, onN_c, onL_c, Option.bind_some, Option.map_some, cond_true, cond_false, ↓onI_c, ↓onS_c, ↓onB_c, ↓onN_c, ↓onL_c, ↓Option.bind_some, ↓cond_true, ↓cond_false, decide_eq_true, decide_eq_false, Bool.not_true, Bool.not_false, Int.toNat_natCast, List.length_append, List.length_cons, List.length_nil, List.drop_zero, Nat.zero_add, Nat.add_zero, decT, decF, bneI_t, bneI_f, hp]
      · have e4 := u64_in ((q : Int) - 1) (by omega)
        have e5 := i64_in ((q : Int) - 1) (by omega)
        have e6 := i64_in (0 - ((q : Int) - 1)) (by omega)
        have e8 : 0 - ((q : Int) - 1) - 1 = -q := by omega
        have e10 := i64_in (-(q : Int)) (by omega)
        rcases h2 with ⟨h3, h4⟩ | ⟨h3, h4⟩ <;> simp (disch := first | assumption | omega) only [onI_c, onS_c, onB_c, onN_c, onL_c, Option.bind_some, Option.map_some, cond_true, cond_false, ↓onI_c, ↓onS_c, ↓onB_c, ↓onN_c, ↓onL_c, ↓Option.bind_some, ↓cond_true, ↓cond_false, decide_eq_true, decide_eq_false, Bool.not_true, Bool.not_false, Int.toNat_natCast, List.length_append, List.length_cons, List.length_nil, List.drop_zero, Nat.zero_add, Nat.add_zero, decT, decF, bneI_t, bneI_f, hp, e4, e5, e6, e8, e10]
    · have e := kfdiv_other b0 ht h
      have hr0 : 0 < a.natAbs % b.natAbs := by
        rcases Nat.eq_zero_or_pos (a.natAbs % b.natAbs) with q | q
        · rw [q] at e8; split at e8 <;> omega
        · exact q
      have l3 := l2 hr0
      rw [e, e1]
      generalize a.natAbs / b.natAbs = q at *
      generalize a.natAbs % b.natAbs = r at *
      rw [if_pos (by unfold In6; omega)]
      have e4 := u64_in ((q : Int) + 1) (by omega)
      have e11 : (q : Int) + 1 - 1 = q := by omega
      have e12 := u64_in (q : Int) (by omega)
      have e5 := i64_in (q : Int) (by omega)
      have e6 := i64_in (0 - (q : Int)) (by omega)
      have e8 : 0 - (q : Int) - 1 = -q - 1 := by omega
      have e10 := i64_in (-(q : Int) - 1) (by omega)
      rcases h2 with ⟨h3, h4⟩ | ⟨h3, h4⟩ <;> simp (disch := first | assumption | omega) only [onI_c, onS_c, onB_c, onN_c, onL_c, Option.bind_some, Option.map_some, cond_true, cond_false, ↓onI_c, ↓onS_c, ↓onB_c, ↓onN_c, ↓onL_c, ↓Option.bind_some, ↓cond_true, ↓cond_false, decide_eq_true, decide_eq_false, Bool.not_true, Bool.not_false, Int.toNat_natCast, List.length_append, List.length_cons, List.length_nil, List.drop_zero, Nat.zero_add, Nat.add_zero, decT, decF, bneI_t, bneI_f, hp, e4, e11, e12, e5, e6, e8, e10]
theorem krmod0_at (a : Int) : F_ref03_Mod [.i a, .i 0] = some [.i 0, .b false] := by
  unfold F_ref03_Mod
  simp (disch := omega) only [onI_c, onS_c, onB_c, onN_c, onL_c, Option.bind_some, Option.map_some, cond_true, cond_false, ↓onI_c, ↓onS_c, ↓onB_c, ↓onN_c, ↓onL_c, ↓Option.bind_some, ↓cond_true, ↓cond_false, decide_eq_true, decide_eq_false, Bool.not_true, Bool.not_false, Int.toNat_natCast, List.length_append, List.length_cons, List.length_nil, List.drop_zero, Nat.zero_add, Nat.add_zero, decT, decF, bneI_t, bneI_f]
theorem krmod_at {a b : Int} (ha : In6 a) (hb : In6 b) (b0 : b ≠ 0) : F_ref03_Mod [.i a, .i b] = some [.i (a.fmod b), .b true] := by
  unfold F_ref03_Mod
  have hp := kparts_at ha hb b0
  have s2 := ksize_at hb
  unfold In6 at ha hb
  have hrl : a.natAbs % b.natAbs < b.natAbs := Nat.mod_lt _ (by omega)
  have e8 := ktm a b
  have hfz := fun q => kfmod_same (kfdiv_zero (a := a) (b := b) q)
  have hfs := fun q => kfmod_same (kfdiv_same (a := a) b0 q)
  have hfo := fun q q' => kfmod_other (kfdiv_other (a := a) b0 q q')
  generalize a.natAbs % b.natAbs = r at *
  generalize hy : b.natAbs = y at *
  generalize a.tmod b = t at *
  have e1 := i64_in (r : Int) (by omega)
  have e2 := i64_in (0 - (r : Int)) (by omega)
  by_cases hr : 0 < (r : Int)
  · by_cases h : a < 0 ↔ b < 0
    · rw [hfs h]
      by_cases h0 : a < 0
      · have h1 := h.1 h0
        rw [if_pos h0] at e8
        have e9 : 0 - (r : Int) = t := by omega
        rw [e9] at e2
        simp (disch := first | assumption | omega) only [onI_c, onS_c, onB_c, onN_c, onL_c, Option.bind_some, Option.map_some, cond_true, cond_false, ↓onI_c, ↓onS_c, ↓onB_c, ↓onN_c, ↓onL_c, ↓Option.bind_some, ↓cond_true, ↓cond_false, decide_eq_true, decide_eq_false, Bool.not_true, Bool.not_false, Int.toNat_natCast, List.length_append, List.length_cons, List.length_nil, List.drop_zero, Nat.zero_add, Nat.add_zero, decT, decF, bneI_t, bneI_f, hp, s2, e1, e2, e9]
      · have h1 : ¬ b < 0 := fun q => h0 (h.2 q)
        rw [if_neg h0] at e8
        simp (disch := first | assumption | omega) only [onI_c, onS_c, onB_c, onN_c, onL_c, Option.bind_some, Option.map_some, cond_true, cond_false, ↓onI_c, ↓onS_c, ↓onB_c, ↓onN_c, ↓onL_c, ↓Option.bind_some, ↓cond_true, ↓cond_false, decide_eq_true, decide_eq_false, Bool.not_true, Bool.not_false, Int.toNat_natCast, List.length_append, List.length_cons, List.length_nil, List.drop_zero, Nat.zero_add, Nat.add_zero, decT, decF, bneI_t, bneI_f, hp, s2, e1, e8]
    · have e3 := u64_in ((y : Int) - r) (by omega)
      have e4 := i64_in ((y : Int) - r) (by omega)
      have e5 := i64_in (0 - ((y : Int) - r)) (by omega)
      by_cases h0 : a < 0
      · have h1 : ¬ b < 0 := by omega
        rw [if_pos h0] at e8
        rw [hfo (by omega) h]
        have e9 : (y : Int) - r = t + b := by omega
        rw [e9] at e3 e4
        simp (disch := first | assumption | omega) only [onI_c, onS_c, onB_c, onN_c, onL_c, Option.bind_some, Option.map_some, cond_true, cond_false, ↓onI_c, ↓onS_c, ↓onB_c, ↓onN_c, ↓onL_c, ↓Option.bind_some, ↓cond_true, ↓cond_false, decide_eq_true, decide_eq_false, Bool.not_true, Bool.not_false, Int.toNat_natCast, List.length_append, List.length_cons, List.length_nil, List.drop_zero, Nat.zero_add, Nat.add_zero, decT, decF, bneI_t, bneI_f, hp, s2, e9, e3, e4]
      · have h1 : b < 0 := by omega
        rw [if_neg h0] at e8
        rw [hfo (by omega) h]
        have e9 : 0 - ((y : Int) - r) = t + b := by omega
        rw [e9] at e5
        simp (disch := first | assumption | omega) only [onI_c, onS_c, onB_c, onN_c, onL_c, Option.bind_some, Option.map_some, cond_true, cond_false, ↓onI_c, ↓onS_c, ↓onB_c, ↓onN_c, ↓onL_c, ↓Option.bind_some, ↓cond_true, ↓cond_false, decide_eq_true, decide_eq_false, Bool.not_true, Bool.not_false, Int.toNat_natCast, List.length_append, List.length_cons, List.length_nil, List.drop_zero, Nat.zero_add, Nat.add_zero, decT, decF, bneI_t, bneI_f, hp, s2, e3, e4, e9, e5]
  · have ht : t = 0 := by split at e8 <;> omega
    rw [hfz ht, ht]
    have hr0 : (r : Int) = 0 := by omega
    rw [hr0] at hp e1
    have e3 : i64 (0 - 0) = 0 := i64_in 0 (by omega)
    by_cases h1 : b < 0
    · simp (disch := first | assumption | omega) only [onI_c, onS_c, onB_c, onN_c, onL_c, Option.bind_some, Option.map_some, cond_true, cond_false, ↓onI_c, ↓onS_c, ↓onB_c, ↓onN_c, ↓onL_c, ↓Option.bind_some, ↓cond_true, ↓cond_false, decide_eq_true, decide_eq_false, Bool.not_true, Bool.not_false, Int.toNat_natCast, List.length_append, List.length_cons, List.length_nil, List.drop_zero, Nat.zero_add, Nat.add_zero, decT, decF, bneI_t, bneI_f, hp, s2, e1, e3]
    · simp (disch := first | assumption | omega) only [onI_c, onS_c, onB_c, onN_c, onL_c, Option.bind_some, Option.map_some, cond_true, cond_false, ↓onI_c, ↓onS_c, ↓onB_c, ↓onN_c, ↓onL_c, ↓Option.bind_some, ↓cond_true, ↓cond_false, decide_eq_true, decide_eq_false, Bool.not_true, Bool.not_false, Int.toNat_natCast, List.length_append, List.length_cons, List.length_nil, List.drop_zero, Nat.zero_add, Nat.add_zero, decT, decF, bneI_t, bneI_f, hp, s2, e1, e3]
end Go.Proofs.Ytkjlobjnboljbaa
