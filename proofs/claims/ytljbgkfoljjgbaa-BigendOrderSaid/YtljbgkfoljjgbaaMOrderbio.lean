/-
  Big-endian numbers: the order of their bytes.
-/
import Derived.Test.YtljbgkfoljjgbaaMGetbio
namespace Go.Proofs.Ytljbgkfoljjgbaa
open Go.Ax
set_option linter.all false
set_option maxHeartbeats 8000000
attribute [local congr] cond_cong bind_cong onI_cong onB_cong onS_cong onN_cong onL_cong

def sg (a b : Int) : Int := if a < b then -1 else if b < a then 1 else 0
theorem u8_lt (c : UInt8) : (0 : Int) ≤ (c.toNat : Int) ∧ (c.toNat : Int) ≤ 255 := by
  have := UInt8.toNat_lt c
  omega
theorem sg_same {a b c d : Int} (h1 : a < b ↔ c < d) (h2 : b < a ↔ d < c) : sg a b = sg c d := by
  unfold sg
  simp only [h1, h2]
theorem cmp_cons {a b : UInt8} {l m : List UInt8} {A B : Int} (K : Int) (h : Go.Lib.compareBytes l m = sg A B) (hA : 0 ≤ A ∧ A < K) (hB : 0 ≤ B ∧ B < K) :
    Go.Lib.compareBytes (a :: l) (b :: m) = sg (K * (a.toNat : Int) + A) (K * (b.toNat : Int) + B) := by
  unfold Go.Lib.compareBytes
  by_cases h1 : a < b
  · rw [if_pos h1]
    have q : ((a.toNat : Int) + 1) ≤ (b.toNat : Int) := by have := UInt8.lt_iff_toNat_lt.1 h1; omega
    have q2 := Int.mul_le_mul_of_nonneg_left q (show 0 ≤ K by omega)
    rw [Int.mul_add, Int.mul_one] at q2
    unfold sg
    rw [if_pos (by omega)]
  · rw [if_neg h1]
    by_cases h2 : b < a
    · rw [if_pos h2]
      have q : ((b.toNat : Int) + 1) ≤ (a.toNat : Int) := by have := UInt8.lt_iff_toNat_lt.1 h2; omega
      have q2 := Int.mul_le_mul_of_nonneg_left q (show 0 ≤ K by omega)
      rw [Int.mul_add, Int.mul_one] at q2
      unfold sg
      rw [if_neg (by omega), if_pos (by omega)]
    · rw [if_neg h2, h]
      have q : (a.toNat : Int) = (b.toNat : Int) := by
        have n1 : ¬ a.toNat < b.toNat := fun q => h1 (UInt8.lt_iff_toNat_lt.2 q)
        have n2 : ¬ b.toNat < a.toNat := fun q => h2 (UInt8.lt_iff_toNat_lt.2 q)
        omega
      rw [q]
      exact sg_same (by omega) (by omega)
theorem cmp8 (a7 a6 a5 a4 a3 a2 a1 a0 b7 b6 b5 b4 b3 b2 b1 b0 : UInt8) : Go.Lib.compareBytes [a7, a6, a5, a4, a3, a2, a1, a0] [b7, b6, b5, b4, b3, b2, b1, b0] =
    sg (72057594037927936 * (a7.toNat : Int) + (281474976710656 * (a6.toNat : Int) + (1099511627776 * (a5.toNat : Int) + (4294967296 * (a4.toNat : Int) + (16777216 * (a3.toNat : Int) + (65536 * (a2.toNat : Int) + (256 * (a1.toNat : Int) + (1 * (a0.toNat : Int) + 0))))))))
      (72057594037927936 * (b7.toNat : Int) + (281474976710656 * (b6.toNat : Int) + (1099511627776 * (b5.toNat : Int) + (4294967296 * (b4.toNat : Int) + (16777216 * (b3.toNat : Int) + (65536 * (b2.toNat : Int) + (256 * (b1.toNat : Int) + (1 * (b0.toNat : Int) + 0)))))))) := by
  have A0 := u8_lt a0
  have A1 := u8_lt a1
  have A2 := u8_lt a2
  have A3 := u8_lt a3
  have A4 := u8_lt a4
  have A5 := u8_lt a5
  have A6 := u8_lt a6
  have B0 := u8_lt b0
  have B1 := u8_lt b1
  have B2 := u8_lt b2
  have B3 := u8_lt b3
  have B4 := u8_lt b4
  have B5 := u8_lt b5
  have B6 := u8_lt b6
  have h0 : Go.Lib.compareBytes [] [] = sg 0 0 := rfl
  refine cmp_cons _ (cmp_cons _ (cmp_cons _ (cmp_cons _ (cmp_cons _ (cmp_cons _ (cmp_cons _ (cmp_cons _ h0 ?_ ?_) ?_ ?_) ?_ ?_) ?_ ?_) ?_ ?_) ?_ ?_) ?_ ?_) ?_ ?_ <;> omega
/-- A number without its sign. -/
def ux (x : Int) : Int := if x < 0 then x + 18446744073709551616 else x
theorem ux_at {x : Int} (hx : -9223372036854775808 ≤ x ∧ x < 9223372036854775808) : 72057594037927936 * ((byteAt x 7).toNat : Int) + (281474976710656 * ((byteAt x 6).toNat : Int) + (1099511627776 * ((byteAt x 5).toNat : Int) + (4294967296 * ((byteAt x 4).toNat : Int) + (16777216 * ((byteAt x 3).toNat : Int) + (65536 * ((byteAt x 2).toNat : Int) + (256 * ((byteAt x 1).toNat : Int) + (1 * ((byteAt x 0).toNat : Int) + 0))))))) = ux x := by
  have d0 : x / 2 ^ (8 * 0) = x := by show x / 1 = x; omega
  have d1 : x / 2 ^ (8 * 1) = x / 2 ^ (8 * 0) / 256 := div_step x 0
  have d2 : x / 2 ^ (8 * 2) = x / 2 ^ (8 * 1) / 256 := div_step x 1
  have d3 : x / 2 ^ (8 * 3) = x / 2 ^ (8 * 2) / 256 := div_step x 2
  have d4 : x / 2 ^ (8 * 4) = x / 2 ^ (8 * 3) / 256 := div_step x 3
  have d5 : x / 2 ^ (8 * 5) = x / 2 ^ (8 * 4) / 256 := div_step x 4
  have d6 : x / 2 ^ (8 * 6) = x / 2 ^ (8 * 5) / 256 := div_step x 5
  have d7 : x / 2 ^ (8 * 7) = x / 2 ^ (8 * 6) / 256 := div_step x 6
  have h7 : -128 ≤ x / 2 ^ (8 * 7) ∧ x / 2 ^ (8 * 7) < 128 := by
    show -128 ≤ x / 72057594037927936 ∧ x / 72057594037927936 < 128
    omega
  rw [byteAt_nat, byteAt_nat, byteAt_nat, byteAt_nat, byteAt_nat, byteAt_nat, byteAt_nat, byteAt_nat]
  generalize x / 2 ^ (8 * 7) = q7 at *
  generalize x / 2 ^ (8 * 6) = q6 at *
  generalize x / 2 ^ (8 * 5) = q5 at *
  generalize x / 2 ^ (8 * 4) = q4 at *
  generalize x / 2 ^ (8 * 3) = q3 at *
  generalize x / 2 ^ (8 * 2) = q2 at *
  generalize x / 2 ^ (8 * 1) = q1 at *
  generalize x / 2 ^ (8 * 0) = q0 at *
  subst d0
  unfold ux
  clear hx
  have e0 : q0 = 256 * q1 + q0 % 256 := by omega
  have e1 : q1 = 256 * q2 + q1 % 256 := by omega
  have e2 : q2 = 256 * q3 + q2 % 256 := by omega
  have e3 : q3 = 256 * q4 + q3 % 256 := by omega
  have e4 : q4 = 256 * q5 + q4 % 256 := by omega
  have e5 : q5 = 256 * q6 + q5 % 256 := by omega
  have e6 : q6 = 256 * q7 + q6 % 256 := by omega
  have hn : q0 < 0 ↔ q7 < 0 := by omega
  have e7 : q7 % 256 = if q7 < 0 then q7 + 256 else q7 := by split <;> omega
  clear d1 d2 d3 d4 d5 d6 d7
  by_cases h : q7 < 0
  · rw [if_pos h] at e7
    rw [if_pos (hn.2 h)]
    clear hn h7
    generalize q0 % 256 = r0 at *
    generalize q1 % 256 = r1 at *
    generalize q2 % 256 = r2 at *
    generalize q3 % 256 = r3 at *
    generalize q4 % 256 = r4 at *
    generalize q5 % 256 = r5 at *
    generalize q6 % 256 = r6 at *
    generalize q7 % 256 = r7 at *
    omega
  · rw [if_neg h] at e7
    rw [if_neg (fun q => h (hn.1 q))]
    clear hn h7
    generalize q0 % 256 = r0 at *
    generalize q1 % 256 = r1 at *
    generalize q2 % 256 = r2 at *
    generalize q3 % 256 = r3 at *
    generalize q4 % 256 = r4 at *
    generalize q5 % 256 = r5 at *
    generalize q6 % 256 = r6 at *
    generalize q7 % 256 = r7 at *
    omega
theorem compare_at {x y : Int} (hx : -9223372036854775808 ≤ x ∧ x < 9223372036854775808) (hy : -9223372036854775808 ≤ y ∧ y < 9223372036854775808) :
    F_bytes_Compare [.n 8, .l (bc (enc 8 x)), .n 8, .l (bc (enc 8 y))] = some [.i (sg (ux x) (ux y))] := by
  have e : Go.Lib.compareBytes (enc 8 x) (enc 8 y) = sg (ux x) (ux y) := by
    rw [← ux_at hx, ← ux_at hy]
    exact cmp8 (byteAt x 7) (byteAt x 6) (byteAt x 5) (byteAt x 4) (byteAt x 3) (byteAt x 2) (byteAt x 1) (byteAt x 0) (byteAt y 7) (byteAt y 6) (byteAt y 5) (byteAt y 4) (byteAt y 3) (byteAt y 2) (byteAt y 1) (byteAt y 0)
  have l1 : (bc (enc 8 x)).length = 8 := by rw [bc_len, enc_len]
  have l2 : (bc (enc 8 y)).length = 8 := by rw [bc_len, enc_len]
  have b : bytesCompare [.n 8, .l (bc (enc 8 x)), .n 8, .l (bc (enc 8 y))] = some [.i (sg (ux x) (ux y))] := by
    show (if (bc (enc 8 x)).length = 8 ∧ (bc (enc 8 y)).length = 8 then Option.bind (bytesOf (bc (enc 8 x))) fun s => Option.bind (bytesOf (bc (enc 8 y))) fun t => some [Dat.i (Go.Lib.compareBytes s t)] else none) = _
    rw [if_pos ⟨l1, l2⟩, bytesOf_bc, bytesOf_bc]
    show some [Dat.i (Go.Lib.compareBytes (enc 8 x) (enc 8 y))] = _
    rw [e]
  unfold F_bytes_Compare
  show Option.bind (bytesCompare [.n 8, .l (bc (enc 8 x)), .n 8, .l (bc (enc 8 y))]) _ = _
  rw [b]
  rfl
theorem lawP_BigendOrder {dats : List Dat} (h : DatOk tau [.int .i64, .int .i64] dats) : F_law41_BigendOrder dats = some [.b true] := by
  obtain ⟨x, r, rfl, hx, y, r, rfl, hy, rfl⟩ := h
  have hx := wf_i64 hx
  have hy := wf_i64 hy
  have p : F_bigend_Put [.n 0, .l [], .i 8, .i x] = some [.n 8, .l (bc (enc 8 x)), .i 0] :=
    put_at (s := 8) (x := x) (bs := []) (.inr (.inr rfl)) (by simp) (by show x / 9223372036854775808 = 0 ∨ x / 9223372036854775808 = -1; omega)
  have q : F_bigend_Put [.n 0, .l [], .i 8, .i y] = some [.n 8, .l (bc (enc 8 y)), .i 0] :=
    put_at (s := 8) (x := y) (bs := []) (.inr (.inr rfl)) (by simp) (by show y / 9223372036854775808 = 0 ∨ y / 9223372036854775808 = -1; omega)
  have c := compare_at (x := x) (y := y) (by omega) (by omega)
  have hc : ∀ k : Int, sg (ux x) (ux y) = k → F_bytes_Compare [.n 8, .l (bc (enc 8 x)), .n 8, .l (bc (enc 8 y))] = some [.i k] := fun k hk => hk ▸ c
  have k1 : ux x < ux y → sg (ux x) (ux y) = -1 := fun h => by unfold sg; rw [if_pos h]
  have k2 : ux y < ux x → sg (ux x) (ux y) = 1 := fun h => by unfold sg; rw [if_neg (by omega), if_pos h]
  have k3 : x = y → sg (ux x) (ux y) = 0 := fun h => by subst h; unfold sg; rw [if_neg (by omega), if_neg (by omega)]
  have ex : x < 0 → ux x = x + 18446744073709551616 := fun h => by unfold ux; rw [if_pos h]
  have ex' : ¬ x < 0 → ux x = x := fun h => by unfold ux; rw [if_neg h]
  have ey : y < 0 → ux y = y + 18446744073709551616 := fun h => by unfold ux; rw [if_pos h]
  have ey' : ¬ y < 0 → ux y = y := fun h => by unfold ux; rw [if_neg h]
  generalize enc 8 x = bx at *
  generalize enc 8 y = b_y at *
  clear c
  have w : F_law41_works [] = some [.b true] := rfl
  unfold F_law41_BigendOrder
  by_cases hx0 : x < 0
  · have ex := ex hx0
    by_cases hy0 : y < 0
    · have ey := ey hy0
      rcases Int.lt_trichotomy x y with hq | hq | hq
      · have c := hc _ (k1 (by omega))
        clear hc k1 k2 k3 ex ey ex' ey'
        simp (disch := omega) only [onI_c, onS_c, onB_c, onN_c, onL_c, Option.bind_some, Option.map_some, cond_true, cond_false, ↓onI_c, ↓onS_c, ↓onB_c, ↓onN_c, ↓onL_c, ↓Option.bind_some, ↓cond_true, ↓cond_false, decide_eq_true, decide_eq_false, Bool.not_true, Bool.not_false, Int.toNat_natCast, List.length_append, List.length_cons, List.length_nil, List.drop_zero, Nat.zero_add, Nat.add_zero, decT, decF, bneI_t, bneI_f, p, q, c, w]
      · have c := hc _ (k3 hq)
        clear hc k1 k2 k3 ex ey ex' ey'
        simp (disch := omega) only [onI_c, onS_c, onB_c, onN_c, onL_c, Option.bind_some, Option.map_some, cond_true, cond_false, ↓onI_c, ↓onS_c, ↓onB_c, ↓onN_c, ↓onL_c, ↓Option.bind_some, ↓cond_true, ↓cond_false, decide_eq_true, decide_eq_false, Bool.not_true, Bool.not_false, Int.toNat_natCast, List.length_append, List.length_cons, List.length_nil, List.drop_zero, Nat.zero_add, Nat.add_zero, decT, decF, bneI_t, bneI_f, p, q, c, w]
      · have c := hc _ (k2 (by omega))
        clear hc k1 k2 k3 ex ey ex' ey'
        simp (disch := omega) only [onI_c, onS_c, onB_c, onN_c, onL_c, Option.bind_some, Option.map_some, cond_true, cond_false, ↓onI_c, ↓onS_c, ↓onB_c, ↓onN_c, ↓onL_c, ↓Option.bind_some, ↓cond_true, ↓cond_false, decide_eq_true, decide_eq_false, Bool.not_true, Bool.not_false, Int.toNat_natCast, List.length_append, List.length_cons, List.length_nil, List.drop_zero, Nat.zero_add, Nat.add_zero, decT, decF, bneI_t, bneI_f, p, q, c, w]
    · have ey' := ey' hy0
      have c := hc _ (k2 (by omega))
      clear hc k1 k2 k3 ex ey ex' ey'
      simp (disch := omega) only [onI_c, onS_c, onB_c, onN_c, onL_c, Option.bind_some, Option.map_some, cond_true, cond_false, ↓onI_c, ↓onS_c, ↓onB_c, ↓onN_c, ↓onL_c, ↓Option.bind_some, ↓cond_true, ↓cond_false, decide_eq_true, decide_eq_false, Bool.not_true, Bool.not_false, Int.toNat_natCast, List.length_append, List.length_cons, List.length_nil, List.drop_zero, Nat.zero_add, Nat.add_zero, decT, decF, bneI_t, bneI_f, p, q, c, w]
  · have ex' := ex' hx0
    by_cases hy0 : y < 0
    · have ey := ey hy0
      have c := hc _ (k1 (by omega))
      clear hc k1 k2 k3 ex ey ex' ey'
      simp (disch := omega) only [onI_c, onS_c, onB_c, onN_c, onL_c, Option.bind_some, Option.map_some, cond_true, cond_false, ↓onI_c, ↓onS_c, ↓onB_c, ↓onN_c, ↓onL_c, ↓Option.bind_some, ↓cond_true, ↓cond_false, decide_eq_true, decide_eq_false, Bool.not_true, Bool.not_false, Int.toNat_natCast, List.length_append, List.length_cons, List.length_nil, List.drop_zero, Nat.zero_add, Nat.add_zero, decT, decF, bneI_t, bneI_f, p, q, c, w]
    · have ey' := ey' hy0
      rcases Int.lt_trichotomy x y with hq | hq | hq
      · have c := hc _ (k1 (by omega))
        clear hc k1 k2 k3 ex ey ex' ey'
        simp (disch := omega) only [onI_c, onS_c, onB_c, onN_c, onL_c, Option.bind_some, Option.map_some, cond_true, cond_false, ↓onI_c, ↓onS_c, ↓onB_c, ↓onN_c, ↓onL_c, ↓Option.bind_some, ↓cond_true, ↓cond_false, decide_eq_true, decide_eq_false, Bool.not_true, Bool.not_false, Int.toNat_natCast, List.length_append, List.length_cons, List.length_nil, List.drop_zero, Nat.zero_add, Nat.add_zero, decT, decF, bneI_t, bneI_f, p, q, c, w]
      · have c := hc _ (k3 hq)
        clear hc k1 k2 k3 ex ey ex' ey'
        simp (disch := omega) only [onI_c, onS_c, onB_c, onN_c, onL_c, Option.bind_some, Option.map_some, cond_true, cond_false, ↓onI_c, ↓onS_c, ↓onB_c, ↓onN_c, ↓onL_c, ↓Option.bind_some, ↓cond_true, ↓cond_false, decide_eq_true, decide_eq_false, Bool.not_true, Bool.not_false, Int.toNat_natCast, List.length_append, List.length_cons, List.length_nil, List.drop_zero, Nat.zero_add, Nat.add_zero, decT, decF, bneI_t, bneI_f, p, q, c, w]
      · have c := hc _ (k2 (by omega))
        clear hc k1 k2 k3 ex ey ex' ey'
        simp (disch := omega) only [onI_c, onS_c, onB_c, onN_c, onL_c, Option.bind_some, Option.map_some, cond_true, cond_false, ↓onI_c, ↓onS_c, ↓onB_c, ↓onN_c, ↓onL_c, ↓Option.bind_some, ↓cond_true, ↓cond_false, decide_eq_true, decide_eq_false, Bool.not_true, Bool.not_false, Int.toNat_natCast, List.length_append, List.length_cons, List.length_nil, List.drop_zero, Nat.zero_add, Nat.add_zero, decT, decF, bneI_t, bneI_f, p, q, c, w]
end Go.Proofs.Ytljbgkfoljjgbaa
