/-
  Amounts of time: strings of numbers.
-/
import Derived.Test.YtnfgmffcnmifkaaDoorFclo
import Derived.Lib.ItoaNum
namespace Go.Proofs.YtnfgmffcnmifkaaDoor
open Go.Ax Go.Lib
set_option linter.all false

theorem formatInt_at {n : Int} (h0 : -9223372036854775808 ≤ n) (h1 : n ≤ 9223372036854775807) : Ax.formatInt [.i n] = some [.s (itoa n)] := by
  show (if -9223372036854775808 ≤ n ∧ n ≤ 9223372036854775807 then some [Dat.s (itoa n)] else none) = _
  rw [if_pos ⟨h0, h1⟩]
theorem itoa_nat (n : Nat) : itoa (n : Int) = decDigits n := by
  unfold itoa
  rw [if_neg (by omega)]; simp
theorem dec_len : ∀ (k n : Nat), n < 10 ^ (k + 1) → (decDigits n).length ≤ k + 1
  | 0, n, h => by rw [decDigits_one (by simpa using h)]; simp
  | k + 1, n, h => by
    rw [decDigits]
    split
    · simp
    · have := dec_len k (n / 10) (by
        rw [Nat.pow_succ] at h
        omega)
      simp; omega
theorem dec_pos (n : Nat) : 1 ≤ (decDigits n).length := by
  rw [decDigits_length]; exact nDigits_pos n
theorem dec_two {n : Nat} (h : n < 60) : (decDigits (n / 10)).length = 1 ∧ (decDigits (n % 10)).length = 1 := by
  rw [decDigits_one (by omega), decDigits_one (by omega)]; simp

/-- Two digits. -/
def twoD (n : Nat) : List UInt8 := [UInt8.ofNat (48 + n / 10), UInt8.ofNat (48 + n % 10)]
theorem two_at {n : Nat} (h : n < 100) : F_offset_two [.i n] = some [.s (58 :: twoD n)] := by
  unfold F_offset_two
  have e1 : Int.tdiv (n : Int) 10 = ((n / 10 : Nat) : Int) := by rw [Int.tdiv_eq_ediv_of_nonneg (by omega)]; omega
  have e2 : Int.tmod (n : Int) 10 = ((n % 10 : Nat) : Int) := by rw [Int.tmod_eq_emod_of_nonneg (by omega)]; omega
  simp only [onI, e1, e2]
  rw [i64_in _ (by omega), formatInt_at (by omega) (by omega), formatInt_at (by omega) (by omega), itoa_nat, itoa_nat, decDigits_one (by omega), decDigits_one (by omega)]
  rfl

/-- The string of an amount that isn't negative. -/
def prN (x : Nat) : List UInt8 := decDigits (x / 3600) ++ 58 :: twoD (x / 60 % 60) ++ if x % 60 = 0 then [] else 58 :: twoD (x % 60)
def pr (x : Int) : List UInt8 := if x < 0 then 45 :: prN x.natAbs else prN x.toNat

theorem bif_pos {α : Type} {p : Bool} (h : p = true) (a b : α) : (bif p then a else b) = a := by rw [h]; rfl
theorem bif_neg {α : Type} {p : Bool} (h : p = false) (a b : α) : (bif p then a else b) = b := by rw [h]; rfl

theorem print_pos {x : Nat} (h : x ≤ 604799) : F_offset_Print [.i x] = some [.s (prN x), .i 0] := by
  unfold F_offset_Print
  have e1 : Int.tdiv (x : Int) 3600 = ((x / 3600 : Nat) : Int) := by rw [Int.tdiv_eq_ediv_of_nonneg (by omega)]; omega
  have e2 : Int.tdiv (x : Int) 60 = ((x / 60 : Nat) : Int) := by rw [Int.tdiv_eq_ediv_of_nonneg (by omega)]; omega
  have e3 : Int.tmod ((x / 60 : Nat) : Int) 60 = ((x / 60 % 60 : Nat) : Int) := by rw [Int.tmod_eq_emod_of_nonneg (by omega)]; omega
  have e4 : Int.tmod (x : Int) 60 = ((x % 60 : Nat) : Int) := by rw [Int.tmod_eq_emod_of_nonneg (by omega)]; omega
  have hl := dec_len 2 (x / 3600) (by omega)
  simp only [onI, e1, e2, e4]
  rw [decide_eq_false (show ¬ (x : Int) < -604799 by omega), decide_eq_false (show ¬ (604799 : Int) < x by omega), decide_eq_false (show ¬ (x : Int) < 0 by omega)]
  simp only [cond_false, Option.bind_some]
  rw [i64_in ((x / 3600 : Nat) : Int) (by omega), i64_in ((x / 60 : Nat) : Int) (by omega), e3, formatInt_at (by omega) (by omega), itoa_nat, two_at (by omega), two_at (by omega)]
  simp only [Option.bind_some, onS]
  rw [bif_pos (by simp; omega), bif_pos (by simp [twoD]; omega)]
  unfold prN
  by_cases hz : x % 60 = 0
  · rw [bif_neg (by simp; omega), if_pos hz]; simp
  · rw [bif_pos (by simp; omega), bif_pos (by simp [twoD]; omega), if_neg hz]; simp
theorem print_neg {x : Nat} (h : x ≤ 604799) (h0 : 0 < x) : F_offset_Print [.i (-x)] = some [.s (45 :: prN x), .i 0] := by
  unfold F_offset_Print
  have e0 : i64 (0 - -(x : Int)) = (x : Int) := by rw [i64_in _ (by omega)]; omega
  have e1 : Int.tdiv (x : Int) 3600 = ((x / 3600 : Nat) : Int) := by rw [Int.tdiv_eq_ediv_of_nonneg (by omega)]; omega
  have e2 : Int.tdiv (x : Int) 60 = ((x / 60 : Nat) : Int) := by rw [Int.tdiv_eq_ediv_of_nonneg (by omega)]; omega
  have e3 : Int.tmod ((x / 60 : Nat) : Int) 60 = ((x / 60 % 60 : Nat) : Int) := by rw [Int.tmod_eq_emod_of_nonneg (by omega)]; omega
  have e4 : Int.tmod (x : Int) 60 = ((x % 60 : Nat) : Int) := by rw [Int.tmod_eq_emod_of_nonneg (by omega)]; omega
  have hl := dec_len 2 (x / 3600) (by omega)
  simp only [onI, e0, e1, e2, e4]
  rw [decide_eq_false (show ¬ (-x : Int) < -604799 by omega), decide_eq_false (show ¬ (604799 : Int) < -x by omega), decide_eq_true (show (-x : Int) < 0 by omega)]
  simp only [cond_false, cond_true, Option.bind_some]
  rw [i64_in ((x / 3600 : Nat) : Int) (by omega), i64_in ((x / 60 : Nat) : Int) (by omega), e3, formatInt_at (by omega) (by omega), itoa_nat, two_at (by omega), two_at (by omega)]
  simp only [Option.bind_some, onS]
  rw [bif_pos (by simp; omega), bif_pos (by simp [twoD]; omega)]
  unfold prN
  by_cases hz : x % 60 = 0
  · rw [bif_neg (by simp; omega), if_pos hz]; simp
  · rw [bif_pos (by simp; omega), bif_pos (by simp [twoD]; omega), if_neg hz]; simp
theorem print_out {x : Int} (h : x < -604799 ∨ 604799 < x) : F_offset_Print [.i x] = some [.s [], .i 3] := by
  unfold F_offset_Print
  simp only [onI]
  rcases h with h | h
  · rw [decide_eq_true h]; rfl
  · rw [decide_eq_false (show ¬ x < -604799 by omega), decide_eq_true h]; rfl
theorem print_at {x : Int} (h0 : -604799 ≤ x) (h1 : x ≤ 604799) : F_offset_Print [.i x] = some [.s (pr x), .i 0] := by
  unfold pr
  by_cases h : x < 0
  · rw [if_pos h]
    have := print_neg (x := x.natAbs) (by omega) (by omega)
    rwa [show -(x.natAbs : Int) = x by omega] at this
  · rw [if_neg h]
    have := print_pos (x := x.toNat) (by omega)
    rwa [show (x.toNat : Int) = x by omega] at this

/-! The document's own. -/
theorem decimal_fix : ∀ (m n : Nat), n < m → n < 4611686018427387904 → fixN F_ref04_Decimal_body m [.i n] = some [.s (decDigits n)]
  | 0, n, h, _ => by omega
  | m + 1, n, h, hn => by
    have ih := decimal_fix m
    show F_ref04_Decimal_body (fixN F_ref04_Decimal_body m) [.i n] = _
    generalize fixN F_ref04_Decimal_body m = self at ih
    unfold F_ref04_Decimal_body
    simp only [onI]
    by_cases h9 : n < 10
    · rw [bif_pos (by simp; omega), i64_in _ (by omega), bif_pos (by simp; omega), bif_pos (by simp; omega), decDigits_one h9]
      have : n = 0 ∨ n = 1 ∨ n = 2 ∨ n = 3 ∨ n = 4 ∨ n = 5 ∨ n = 6 ∨ n = 7 ∨ n = 8 ∨ n = 9 := by omega
      rcases this with rfl | rfl | rfl | rfl | rfl | rfl | rfl | rfl | rfl | rfl <;> rfl
    · have e1 : Int.tdiv (n : Int) 10 = ((n / 10 : Nat) : Int) := by rw [Int.tdiv_eq_ediv_of_nonneg (by omega)]; omega
      have e2 : Int.tmod (n : Int) 10 = ((n % 10 : Nat) : Int) := by rw [Int.tmod_eq_emod_of_nonneg (by omega)]; omega
      rw [bif_neg (by simp; omega), e1, e2, i64_in _ (by omega), ih _ (by omega) (by omega), ih _ (by omega) (by omega)]
      simp only [Option.bind_some, onS]
      have l1 := dec_len 20 (n / 10) (by omega)
      have l2 := dec_len 20 (n % 10) (by omega)
      rw [bif_pos (by simp; omega), decDigits_one (i := n % 10) (by omega)]
      conv => rhs; rw [decDigits, dif_neg h9]
theorem decimal_at {n : Nat} (h : n < 4611686018427387904) : F_ref04_Decimal [.i n] = some [.s (decDigits n)] := by
  unfold F_ref04_Decimal
  exact decimal_fix _ _ (by simp) h
theorem refTwo_at {n : Nat} (h : n < 100) : F_ref04_Two [.i n] = some [.s (twoD n)] := by
  unfold F_ref04_Two
  have e1 : Int.tdiv (n : Int) 10 = ((n / 10 : Nat) : Int) := by rw [Int.tdiv_eq_ediv_of_nonneg (by omega)]; omega
  have e2 : Int.tmod (n : Int) 10 = ((n % 10 : Nat) : Int) := by rw [Int.tmod_eq_emod_of_nonneg (by omega)]; omega
  simp only [onI, e1, e2]
  rw [i64_in _ (by omega), decimal_at (by omega), decimal_at (by omega), decDigits_one (by omega), decDigits_one (by omega)]
  rfl
theorem refPrint_pos (self : List Dat → Option (List Dat)) {x : Nat} (h : x ≤ 604799) : F_ref04_Print_body self [.i x] = some [.s (prN x), .i 0] := by
  unfold F_ref04_Print_body
  have e1 : Int.tdiv (x : Int) 3600 = ((x / 3600 : Nat) : Int) := by rw [Int.tdiv_eq_ediv_of_nonneg (by omega)]; omega
  have e2 : Int.tdiv (x : Int) 60 = ((x / 60 : Nat) : Int) := by rw [Int.tdiv_eq_ediv_of_nonneg (by omega)]; omega
  have e3 : Int.tmod ((x / 60 : Nat) : Int) 60 = ((x / 60 % 60 : Nat) : Int) := by rw [Int.tmod_eq_emod_of_nonneg (by omega)]; omega
  have e4 : Int.tmod (x : Int) 60 = ((x % 60 : Nat) : Int) := by rw [Int.tmod_eq_emod_of_nonneg (by omega)]; omega
  have hl := dec_len 2 (x / 3600) (by omega)
  simp only [onI, e1, e2, e4]
  rw [i64_in ((x / 3600 : Nat) : Int) (by omega), i64_in ((x / 60 : Nat) : Int) (by omega), e3, decimal_at (by omega), refTwo_at (by omega), refTwo_at (by omega)]
  rw [decide_eq_false (show ¬ (x : Int) < -604799 by omega), decide_eq_false (show ¬ (604799 : Int) < x by omega), decide_eq_false (show ¬ (x : Int) < 0 by omega)]
  simp only [cond_false, Option.bind_some, onS]
  rw [bif_pos (by simp; omega), bif_pos (by simp [twoD]; omega)]
  unfold prN
  by_cases hz : x % 60 = 0
  · rw [bif_neg (by simp; omega), if_pos hz]; simp
  · rw [bif_pos (by simp; omega), bif_pos (by simp [twoD]; omega), bif_pos (by simp [twoD]; omega), if_neg hz]; simp
theorem refPrint_at {x : Int} (h0 : -604799 ≤ x) (h1 : x ≤ 604799) : F_ref04_Print [.i x] = some [.s (pr x), .i 0] := by
  show F_ref04_Print_body (F_ref04_Print_body (fixN F_ref04_Print_body 0)) [.i x] = _
  unfold pr
  by_cases h : x < 0
  · have := refPrint_pos (fixN F_ref04_Print_body 0) (x := x.natAbs) (by omega)
    generalize F_ref04_Print_body (fixN F_ref04_Print_body 0) = self at this
    rw [if_pos h, F_ref04_Print_body]
    simp only [onI]
    rw [decide_eq_false (show ¬ x < -604799 by omega), decide_eq_false (show ¬ (604799 : Int) < x by omega), decide_eq_true h]
    rw [i64_in _ (by omega), show 0 - x = (x.natAbs : Int) by omega, this]
    simp only [cond_false, cond_true, Option.bind_some, onS, onI]
    have hl := dec_len 2 (x.natAbs / 3600) (by omega)
    rw [bif_pos]
    · rfl
    · unfold prN twoD
      split <;> simp <;> omega
  · rw [if_neg h]
    have := refPrint_pos (F_ref04_Print_body (fixN F_ref04_Print_body 0)) (x := x.toNat) (by omega)
    rwa [show (x.toNat : Int) = x by omega] at this
theorem refPrint_out {x : Int} (h : x < -604799 ∨ 604799 < x) : F_ref04_Print [.i x] = some [.s [], .i 3] := by
  show F_ref04_Print_body _ [.i x] = _
  unfold F_ref04_Print_body
  simp only [onI]
  rcases h with h | h
  · rw [decide_eq_true h]; rfl
  · rw [decide_eq_false (show ¬ x < -604799 by omega), decide_eq_true h]; rfl
end Go.Proofs.YtnfgmffcnmifkaaDoor
