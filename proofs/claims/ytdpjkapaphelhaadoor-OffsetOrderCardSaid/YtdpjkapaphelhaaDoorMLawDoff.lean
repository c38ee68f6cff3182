/-
  Amounts of time: the order of strings.
-/
import Derived.Test.YtdpjkapaphelhaaDoorMLawC0off
namespace Go.Proofs.YtdpjkapaphelhaaDoor
open Go.Ax Go.Lib
set_option linter.all false
set_option maxHeartbeats 8000000
attribute [local congr] cond_cong bind_cong onI_cong onB_cong onS_cong onN_cong onL_cong

theorem bl_cons {a b : Nat} (ha : a < 10) (hb : b < 10) (x y : List UInt8) : Op.bytesLess (Dg a :: x) (Dg b :: y) = (decide (a < b) || (decide (a = b) && Op.bytesLess x y)) := by
  have h1 : decide (Dg a < Dg b) = decide (a < b) := by
    rw [decide_eq_decide, UInt8.lt_iff_toNat_lt, Dg_nat ha, Dg_nat hb]; omega
  have h2 : (Dg a == Dg b) = decide (a = b) := by
    rw [Bool.eq_iff_iff, beq_iff_eq, decide_eq_true_eq, ← UInt8.toNat_inj, Dg_nat ha, Dg_nat hb]; omega
  rw [Op.bytesLess, h1, h2]
theorem bl_colon (x y : List UInt8) : Op.bytesLess (58 :: x) (58 :: y) = Op.bytesLess x y := by
  rw [Op.bytesLess]; simp
theorem bl_nil : Op.bytesLess [] [] = false := rfl
theorem bl_self (s : List UInt8) : Op.bytesLess s s = false := by
  induction s with
  | nil => rfl
  | cons a s ih => rw [Op.bytesLess, ih]; simp
theorem bl_two {m n : Nat} (hm : m < 60) (hn : n < 60) (t u : List UInt8) : Op.bytesLess (twoD m ++ t) (twoD n ++ u) = (decide (m < n) || (decide (m = n) && Op.bytesLess t u)) := by
  simp (disch := omega) only [twoD_eq, List.cons_append, List.nil_append, bl_cons]
  generalize Op.bytesLess t u = b
  cases b <;> (rw [Bool.eq_iff_iff]; simp only [Bool.or_eq_true, Bool.and_eq_true, decide_eq_true_eq, Bool.false_eq_true, and_false, or_false, and_true]; omega)
theorem bl_dec {h g : Nat} (hh : h < 1000) (hg : g < 1000) (hd : (decDigits h).length = (decDigits g).length) (t u : List UInt8) : Op.bytesLess (decDigits h ++ t) (decDigits g ++ u) = (decide (h < g) || (decide (h = g) && Op.bytesLess t u)) := by
  rw [dec3 hh, dec3 hg] at hd ⊢
  by_cases a1 : h < 10
  · by_cases b1 : g < 10
    · rw [if_pos a1, if_pos b1]
      simp (disch := omega) only [List.cons_append, List.nil_append, bl_cons]
    · rw [if_pos a1, if_neg b1] at hd; split at hd <;> simp at hd
  · rw [if_neg a1] at hd ⊢
    by_cases b1 : g < 10
    · rw [if_pos b1] at hd; split at hd <;> simp at hd
    · rw [if_neg b1] at hd ⊢
      by_cases a2 : h < 100
      · by_cases b2 : g < 100
        · rw [if_pos a2, if_pos b2]
          simp (disch := omega) only [List.cons_append, List.nil_append, bl_cons]
          generalize Op.bytesLess t u = b
          cases b <;> (rw [Bool.eq_iff_iff]; simp only [Bool.or_eq_true, Bool.and_eq_true, decide_eq_true_eq, Bool.false_eq_true, and_false, or_false, and_true]; omega)
        · rw [if_pos a2, if_neg b2] at hd; simp at hd
      · by_cases b2 : g < 100
        · rw [if_neg a2, if_pos b2] at hd; simp at hd
        · rw [if_neg a2, if_neg b2]
          simp (disch := omega) only [List.cons_append, List.nil_append, bl_cons]
          generalize Op.bytesLess t u = b
          have e1 : h = 100 * (h / 100) + 10 * (h / 10 % 10) + h % 10 := by omega
          have e2 : g = 100 * (g / 100) + 10 * (g / 10 % 10) + g % 10 := by omega
          have k1 : h / 10 % 10 < 10 ∧ h % 10 < 10 ∧ g / 10 % 10 < 10 ∧ g % 10 < 10 := by omega
          generalize h / 100 = p1 at *
          generalize h / 10 % 10 = p2 at *
          generalize h % 10 = p3 at *
          generalize g / 100 = q1 at *
          generalize g / 10 % 10 = q2 at *
          generalize g % 10 = q3 at *
          cases b <;> (rw [Bool.eq_iff_iff]; simp only [Bool.or_eq_true, Bool.and_eq_true, decide_eq_true_eq, Bool.false_eq_true, and_false, or_false, and_true]; omega)
theorem prN_less {x y : Nat} (hx : x ≤ 604799) (hy : y ≤ 604799) (hd : (decDigits (x / 3600)).length = (decDigits (y / 3600)).length) (hl : (prN x).length = (prN y).length) : Op.bytesLess (prN x) (prN y) = decide (x < y) := by
  have lx : (prN x).length = (decDigits (x / 3600)).length + 3 + (if x % 60 = 0 then 0 else 3) := by
    rw [prN_eq]; split <;> simp [twoD]
  have ly : (prN y).length = (decDigits (y / 3600)).length + 3 + (if y % 60 = 0 then 0 else 3) := by
    rw [prN_eq]; split <;> simp [twoD]
  rw [lx, ly, hd] at hl
  have hz : x % 60 = 0 ↔ y % 60 = 0 := by
    split at hl <;> split at hl <;> omega
  rw [prN_eq, prN_eq, bl_dec (by omega) (by omega) hd, bl_colon, bl_two (by omega) (by omega)]
  by_cases h0 : x % 60 = 0
  · rw [if_pos h0, if_pos (hz.1 h0), bl_nil]
    rw [Bool.eq_iff_iff]; simp only [Bool.or_eq_true, Bool.and_eq_true, decide_eq_true_eq, Bool.false_eq_true, and_false, or_false]; omega
  · rw [if_neg h0, if_neg (fun q => h0 (hz.2 q)), bl_colon]
    have := bl_two (m := x % 60) (n := y % 60) (by omega) (by omega) [] []
    rw [List.append_nil, List.append_nil, bl_nil] at this
    rw [this]
    rw [Bool.eq_iff_iff]; simp only [Bool.or_eq_true, Bool.and_eq_true, decide_eq_true_eq, Bool.false_eq_true, and_false, or_false]; omega
theorem prN_index {x : Nat} (hx : x ≤ 604799) : strIndex [.s (prN x), .s [58]] = some [.i ((decDigits (x / 3600)).length : Int)] := by
  have hl := prN_len x hx
  show (if (prN x).length < 4294967281 then some [Dat.i (index (prN x) [58])] else none) = _
  rw [if_pos (by omega), prN_eq, index_app (digits_not58 (dec_digits (by omega)))]
theorem prN_inj {x y : Nat} (hx : x ≤ 604799) (hy : y ≤ 604799) (h : prN x = prN y) : x = y := by
  have h1 := pparse_prN hx
  rw [h, pparse_prN hy] at h1
  have := (Prod.ext_iff.1 h1).1
  simp at this; omega
theorem law_OffsetOrder {m n : Int} (hm : 0 ≤ m ∧ m ≤ 4294967295) (hn : 0 ≤ n ∧ n ≤ 4294967295) : F_law04_OffsetOrder [.i m, .i n] = some [.b true] := by
  obtain ⟨x, hx⟩ : ∃ x : Nat, m % 604800 = x := ⟨(m % 604800).toNat, by omega⟩
  obtain ⟨y, hy⟩ : ∃ x : Nat, n % 604800 = x := ⟨(n % 604800).toNat, by omega⟩
  have E1 : i64 (Int.tmod m 604800) = x := by rw [tmod_nn hm.1, hx, i64_in _ (by omega)]
  have E2 : i64 (Int.tmod n 604800) = y := by rw [tmod_nn hn.1, hy, i64_in _ (by omega)]
  have hx1 : x ≤ 604799 := by omega
  have hy1 : y ≤ 604799 := by omega
  have lx := prN_len x hx1
  have ly := prN_len y hy1
  have p1 := print_at (x := (x : Int)) (by omega) (by omega)
  have p2 := print_at (x := (y : Int)) (by omega) (by omega)
  have q1 : pr (x : Int) = prN x := by unfold pr; rw [if_neg (by omega)]; rfl
  have q2 : pr (y : Int) = prN y := by unfold pr; rw [if_neg (by omega)]; rfl
  rw [q1] at p1
  rw [q2] at p2
  have i1 := prN_index hx1
  have i2 := prN_index hy1
  unfold F_law04_OffsetOrder
  by_cases hxy : x = y
  · subst hxy
    have c1 : cmpS .lss (prN x) (prN x) = false := bl_self _
    have c2 : ¬ (x : Int) < x := by omega
    simp only [onI_c, onS_c, onB_c, onN_c, onL_c, Option.bind_some, Option.map_some, cond_true, cond_false, ↓onI_c, ↓onS_c, ↓onB_c, ↓onN_c, ↓onL_c, ↓Option.bind_some, ↓cond_true, ↓cond_false, Bool.not_true, Bool.not_false, Int.toNat_natCast, List.length_append, List.length_cons, List.length_nil, List.drop_zero, Nat.zero_add, Nat.add_zero, decT, decF, eq_self, Nat.reduceAdd, Nat.reduceLeDiff, Int.reduceLE, Int.reduceLT, Int.reduceEq, Int.reduceNeg, Nat.reduceEqDiff, not_true_eq_false, not_false_eq_true, ne_eq, and_true, true_and, and_self, E1, E2, p1, works_at, beq_self_eq_true, i1, c1, c2]
  · have hne : (prN x == prN y) = false := beq_f fun e => hxy (prN_inj hx1 hy1 e)
    have hxy' : ¬ (x : Int) = y := by omega
    by_cases hl : ((prN x).length : Int) = ((prN y).length : Int)
    · by_cases hi : ((decDigits (x / 3600)).length : Int) = ((decDigits (y / 3600)).length : Int)
      · have c1 : cmpS .lss (prN x) (prN y) = decide ((x : Int) < y) := by
          show Op.bytesLess _ _ = _
          rw [prN_less hx1 hy1 (by omega) (by omega), decide_eq_decide]; omega
        by_cases hlt : (x : Int) < y
        · rw [decide_eq_true hlt] at c1
          simp only [onI_c, onS_c, onB_c, onN_c, onL_c, Option.bind_some, Option.map_some, cond_true, cond_false, ↓onI_c, ↓onS_c, ↓onB_c, ↓onN_c, ↓onL_c, ↓Option.bind_some, ↓cond_true, ↓cond_false, Bool.not_true, Bool.not_false, Int.toNat_natCast, List.length_append, List.length_cons, List.length_nil, List.drop_zero, Nat.zero_add, Nat.add_zero, decT, decF, eq_self, Nat.reduceAdd, Nat.reduceLeDiff, Int.reduceLE, Int.reduceLT, Int.reduceEq, Int.reduceNeg, Nat.reduceEqDiff, not_true_eq_false, not_false_eq_true, ne_eq, and_true, true_and, and_self, E1, E2, p1, p2, works_at, hne, i1, i2, c1, hxy', hl, hi, hlt]
        · rw [decide_eq_false hlt] at c1
          simp only [onI_c, onS_c, onB_c, onN_c, onL_c, Option.bind_some, Option.map_some, cond_true, cond_false, ↓onI_c, ↓onS_c, ↓onB_c, ↓onN_c, ↓onL_c, ↓Option.bind_some, ↓cond_true, ↓cond_false, Bool.not_true, Bool.not_false, Int.toNat_natCast, List.length_append, List.length_cons, List.length_nil, List.drop_zero, Nat.zero_add, Nat.add_zero, decT, decF, eq_self, Nat.reduceAdd, Nat.reduceLeDiff, Int.reduceLE, Int.reduceLT, Int.reduceEq, Int.reduceNeg, Nat.reduceEqDiff, not_true_eq_false, not_false_eq_true, ne_eq, and_true, true_and, and_self, E1, E2, p1, p2, works_at, hne, i1, i2, c1, hxy', hl, hi, hlt]
      · simp only [onI_c, onS_c, onB_c, onN_c, onL_c, Option.bind_some, Option.map_some, cond_true, cond_false, ↓onI_c, ↓onS_c, ↓onB_c, ↓onN_c, ↓onL_c, ↓Option.bind_some, ↓cond_true, ↓cond_false, Bool.not_true, Bool.not_false, Int.toNat_natCast, List.length_append, List.length_cons, List.length_nil, List.drop_zero, Nat.zero_add, Nat.add_zero, decT, decF, eq_self, Nat.reduceAdd, Nat.reduceLeDiff, Int.reduceLE, Int.reduceLT, Int.reduceEq, Int.reduceNeg, Nat.reduceEqDiff, not_true_eq_false, not_false_eq_true, ne_eq, and_true, true_and, and_self, E1, E2, p1, p2, works_at, hne, i1, i2, hxy', hl, hi]
    · simp only [onI_c, onS_c, onB_c, onN_c, onL_c, Option.bind_some, Option.map_some, cond_true, cond_false, ↓onI_c, ↓onS_c, ↓onB_c, ↓onN_c, ↓onL_c, ↓Option.bind_some, ↓cond_true, ↓cond_false, Bool.not_true, Bool.not_false, Int.toNat_natCast, List.length_append, List.length_cons, List.length_nil, List.drop_zero, Nat.zero_add, Nat.add_zero, decT, decF, eq_self, Nat.reduceAdd, Nat.reduceLeDiff, Int.reduceLE, Int.reduceLT, Int.reduceEq, Int.reduceNeg, Nat.reduceEqDiff, not_true_eq_false, not_false_eq_true, ne_eq, and_true, true_and, and_self, E1, E2, p1, p2, works_at, hne, i1, i2, hxy', hl]
theorem lawP_OffsetOrder {dats : List Dat} (h : DatOk tau [.int .u32, .int .u32] dats) : F_law04_OffsetOrder dats = some [.b true] := by
  obtain ⟨x, r, rfl, hx, y, r, rfl, hy, rfl⟩ := h
  exact law_OffsetOrder (wf_u32 hx) (wf_u32 hy)
end Go.Proofs.YtdpjkapaphelhaaDoor
