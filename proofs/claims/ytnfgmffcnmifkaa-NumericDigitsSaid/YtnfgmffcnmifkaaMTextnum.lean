/-
  Numeric abbreviations: what offsets are printed as.
-/
import Derived.Test.YtnfgmffcnmifkaaAx32
import Derived.Test.YtnfgmffcnmifkaaFnum
namespace Go.Proofs.Ytnfgmffcnmifkaa
open Go.Ax
set_option linter.all false
set_option maxHeartbeats 8000000
attribute [local congr] cond_cong bind_cong onI_cong onB_cong onS_cong onN_cong onL_cong


def dg (q : Int) : UInt8 := UInt8.ofNat (48 + q).toNat
def two (q : Int) : List UInt8 := [dg (q / 10), dg (q % 10)]
/-- What follows the sign. -/
def NB (n : Int) : List UInt8 := two (n / 3600) ++ (if n % 3600 = 0 then [] else two (n / 60 % 60) ++ (if n % 60 = 0 then [] else two (n % 60)))
def NT (x : Int) : List UInt8 := if x < -86399 then [] else if 86399 < x then [] else if x < 0 then 45 :: NB (-x) else 43 :: NB x
theorem dg_val {q : Int} (h : 0 ≤ q ∧ q ≤ 9) : (((dg q).toNat : Nat) : Int) = 48 + q := by
  unfold dg
  rw [UInt8.toNat_ofNat_of_lt' (by show (48 + q).toNat < 256; omega)]; omega
theorem cell_dg {q : Int} (h : 0 ≤ q ∧ q ≤ 9) : UInt8.ofNat (u8 (48 + u8 q)).toNat = dg q := by
  rw [u8_in q (by omega), u8_in _ (by omega)]; rfl

theorem text_at {x : Int} (h : -9223372036854775808 ≤ x ∧ x ≤ 9223372036854775807) : F_numeric_Text [.i x] = some [.s (NT x)] := by
  unfold F_numeric_Text NT
  by_cases h1 : x < -86399
  · rw [if_pos h1]; simp (disch := omega) only [onI_c, onS_c, onB_c, onN_c, onL_c, Option.bind_some, Option.map_some, cond_true, cond_false, ↓onI_c, ↓onS_c, ↓onB_c, ↓onN_c, ↓onL_c, ↓Option.bind_some, ↓cond_true, ↓cond_false, decide_eq_true, decide_eq_false, Bool.not_true, Bool.not_false, Int.toNat_natCast, List.length_append, List.length_cons, List.length_nil, List.drop_zero, Nat.zero_add, Nat.add_zero, decT, decF, bneI_t, bneI_f, h1]
  by_cases h2 : 86399 < x
  · rw [if_neg h1, if_pos h2]; simp (disch := omega) only [onI_c, onS_c, onB_c, onN_c, onL_c, Option.bind_some, Option.map_some, cond_true, cond_false, ↓onI_c, ↓onS_c, ↓onB_c, ↓onN_c, ↓onL_c, ↓Option.bind_some, ↓cond_true, ↓cond_false, decide_eq_true, decide_eq_false, Bool.not_true, Bool.not_false, Int.toNat_natCast, List.length_append, List.length_cons, List.length_nil, List.drop_zero, Nat.zero_add, Nat.add_zero, decT, decF, bneI_t, bneI_f, h1, h2]
  by_cases h3 : x < 0
  · obtain ⟨n, rfl⟩ : ∃ n, x = -n := ⟨-x, by omega⟩
    have e1 : i64 (0 - -n) = n := by rw [i64_in _ (by omega)]; omega
    have e2 : - -n = n := by omega
    have t1 : i64 (Int.tdiv n 3600) = n / 3600 := by rw [tdiv_nn (by omega), i64_in _ (by omega)]
    have t2 : Int.tmod (i64 (Int.tdiv n 60)) 60 = n / 60 % 60 := by rw [tdiv_nn (by omega), i64_in _ (by omega), tmod_nn (by omega)]
    have t3 : Int.tmod n 60 = n % 60 := tmod_nn (by omega)
    have hz : n % 60 = 0 ∧ n / 60 % 60 = 0 ↔ n % 3600 = 0 := by omega
    have b1 : 0 ≤ n / 3600 ∧ n / 3600 ≤ 23 := by omega
    have b2 : 0 ≤ n / 60 % 60 ∧ n / 60 % 60 ≤ 59 := by omega
    have b3 : 0 ≤ n % 60 ∧ n % 60 ≤ 59 := by omega
    rw [if_neg (by omega), if_neg (by omega), if_pos (by omega)]
    unfold NB
    rw [e2]
    simp only [onI_c, e1, t1, t2, t3]
    generalize n / 3600 = a at *
    generalize n / 60 % 60 = b at *
    generalize n % 60 = c at *
    have d1 : i64 (Int.tdiv a 10) = a / 10 := by rw [tdiv_nn (by omega), i64_in _ (by omega)]
    have d2 : Int.tmod a 10 = a % 10 := tmod_nn (by omega)
    have d3 : i64 (Int.tdiv b 10) = b / 10 := by rw [tdiv_nn (by omega), i64_in _ (by omega)]
    have d4 : Int.tmod b 10 = b % 10 := tmod_nn (by omega)
    have d5 : i64 (Int.tdiv c 10) = c / 10 := by rw [tdiv_nn (by omega), i64_in _ (by omega)]
    have d6 : Int.tmod c 10 = c % 10 := tmod_nn (by omega)
    simp only [d1, d2, d3, d4, d5, d6]
    clear d1 d2 d3 d4 d5 d6 e1 t1 t2 t3
    by_cases hc : c = 0
    · by_cases hb : b = 0
      · rw [if_pos (hz.1 ⟨hc, hb⟩)]
        clear hz
        simp (disch := omega) only [onI_c, onS_c, onB_c, onN_c, onL_c, Option.bind_some, Option.map_some, cond_true, cond_false, ↓onI_c, ↓onS_c, ↓onB_c, ↓onN_c, ↓onL_c, ↓Option.bind_some, ↓cond_true, ↓cond_false, decide_eq_true, decide_eq_false, Bool.not_true, Bool.not_false, Int.toNat_natCast, List.length_append, List.length_cons, List.length_nil, List.drop_zero, Nat.zero_add, Nat.add_zero, decT, decF, bneI_t, bneI_f, hc, hb, bytesOf_nil, bytesOf_cons, Isym_v, Ilit_v, cell_dg, two]
        rfl
      · rw [if_neg (fun q => hb (hz.2 q).2), if_pos hc]
        clear hz
        simp (disch := omega) only [onI_c, onS_c, onB_c, onN_c, onL_c, Option.bind_some, Option.map_some, cond_true, cond_false, ↓onI_c, ↓onS_c, ↓onB_c, ↓onN_c, ↓onL_c, ↓Option.bind_some, ↓cond_true, ↓cond_false, decide_eq_true, decide_eq_false, Bool.not_true, Bool.not_false, Int.toNat_natCast, List.length_append, List.length_cons, List.length_nil, List.drop_zero, Nat.zero_add, Nat.add_zero, decT, decF, bneI_t, bneI_f, hc, hb, bytesOf_nil, bytesOf_cons, Isym_v, Ilit_v, cell_dg, two]
        rfl
    · rw [if_neg (fun q => hc (hz.2 q).1), if_neg hc]
      clear hz
      simp (disch := omega) only [onI_c, onS_c, onB_c, onN_c, onL_c, Option.bind_some, Option.map_some, cond_true, cond_false, ↓onI_c, ↓onS_c, ↓onB_c, ↓onN_c, ↓onL_c, ↓Option.bind_some, ↓cond_true, ↓cond_false, decide_eq_true, decide_eq_false, Bool.not_true, Bool.not_false, Int.toNat_natCast, List.length_append, List.length_cons, List.length_nil, List.drop_zero, Nat.zero_add, Nat.add_zero, decT, decF, bneI_t, bneI_f, hc, bytesOf_nil, bytesOf_cons, Isym_v, Ilit_v, cell_dg, two]
      rfl
  · have n := x
    have t1 : i64 (Int.tdiv x 3600) = x / 3600 := by rw [tdiv_nn (by omega), i64_in _ (by omega)]
    have t2 : Int.tmod (i64 (Int.tdiv x 60)) 60 = x / 60 % 60 := by rw [tdiv_nn (by omega), i64_in _ (by omega), tmod_nn (by omega)]
    have t3 : Int.tmod x 60 = x % 60 := tmod_nn (by omega)
    have hz : x % 60 = 0 ∧ x / 60 % 60 = 0 ↔ x % 3600 = 0 := by omega
    have b1 : 0 ≤ x / 3600 ∧ x / 3600 ≤ 23 := by omega
    have b2 : 0 ≤ x / 60 % 60 ∧ x / 60 % 60 ≤ 59 := by omega
    have b3 : 0 ≤ x % 60 ∧ x % 60 ≤ 59 := by omega
    rw [if_neg (by omega), if_neg (by omega), if_neg (by omega)]
    unfold NB
    simp only [onI_c, t1, t2, t3]
    generalize x / 3600 = a at *
    generalize x / 60 % 60 = b at *
    generalize x % 60 = c at *
    have d1 : i64 (Int.tdiv a 10) = a / 10 := by rw [tdiv_nn (by omega), i64_in _ (by omega)]
    have d2 : Int.tmod a 10 = a % 10 := tmod_nn (by omega)
    have d3 : i64 (Int.tdiv b 10) = b / 10 := by rw [tdiv_nn (by omega), i64_in _ (by omega)]
    have d4 : Int.tmod b 10 = b % 10 := tmod_nn (by omega)
    have d5 : i64 (Int.tdiv c 10) = c / 10 := by rw [tdiv_nn (by omega), i64_in _ (by omega)]
    have d6 : Int.tmod c 10 = c % 10 := tmod_nn (by omega)
    simp only [d1, d2, d3, d4, d5, d6]
    clear d1 d2 d3 d4 d5 d6 t1 t2 t3
    by_cases hc : c = 0
    · by_cases hb : b = 0
      · rw [if_pos (hz.1 ⟨hc, hb⟩)]
        clear hz
        simp (disch := omega) only [onI_c, onS_c, onB_c, onN_c, onL_c, Option.bind_some, Option.map_some, cond_true, cond_false, ↓onI_c, ↓onS_c, ↓onB_c, ↓onN_c, ↓onL_c, ↓Option.bind_some, ↓cond_true, ↓cond_false, decide_eq_true, decide_eq_false, Bool.not_true, Bool.not_false, Int.toNat_natCast, List.length_append, List.length_cons, List.length_nil, List.drop_zero, Nat.zero_add, Nat.add_zero, decT, decF, bneI_t, bneI_f, h1, h2, h3, hc, hb, bytesOf_nil, bytesOf_cons, Isym_v, Ilit_v, cell_dg, two]
        rfl
      · rw [if_neg (fun q => hb (hz.2 q).2), if_pos hc]
        clear hz
        simp (disch := omega) only [onI_c, onS_c, onB_c, onN_c, onL_c, Option.bind_some, Option.map_some, cond_true, cond_false, ↓onI_c, ↓onS_c, ↓onB_c, ↓onN_c, ↓onL_c, ↓Option.bind_some, ↓cond_true, ↓cond_false, decide_eq_true, decide_eq_false, Bool.not_true, Bool.not_false, Int.toNat_natCast, List.length_append, List.length_cons, List.length_nil, List.drop_zero, Nat.zero_add, Nat.add_zero, decT, decF, bneI_t, bneI_f, h1, h2, h3, hc, hb, bytesOf_nil, bytesOf_cons, Isym_v, Ilit_v, cell_dg, two]
        rfl
    · rw [if_neg (fun q => hc (hz.2 q).1), if_neg hc]
      clear hz
      simp (disch := omega) only [onI_c, onS_c, onB_c, onN_c, onL_c, Option.bind_some, Option.map_some, cond_true, cond_false, ↓onI_c, ↓onS_c, ↓onB_c, ↓onN_c, ↓onL_c, ↓Option.bind_some, ↓cond_true, ↓cond_false, decide_eq_true, decide_eq_false, Bool.not_true, Bool.not_false, Int.toNat_natCast, List.length_append, List.length_cons, List.length_nil, List.drop_zero, Nat.zero_add, Nat.add_zero, decT, decF, bneI_t, bneI_f, h1, h2, h3, hc, bytesOf_nil, bytesOf_cons, Isym_v, Ilit_v, cell_dg, two]
      rfl
end Go.Proofs.Ytnfgmffcnmifkaa
