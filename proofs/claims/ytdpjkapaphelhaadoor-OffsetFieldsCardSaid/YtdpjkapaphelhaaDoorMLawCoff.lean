/-
  Amounts of time: parts that can be left out.
-/
import Derived.Test.YtdpjkapaphelhaaDoorMLawC0off
namespace Go.Proofs.YtdpjkapaphelhaaDoor
open Go.Ax Go.Lib
set_option linter.all false
set_option maxHeartbeats 8000000
attribute [local congr] cond_cong bind_cong onI_cong onB_cong onS_cong onN_cong onL_cong

theorem law_OffsetFields {a b c : Int} {d : Bool} (ha : 0 ≤ a ∧ a ≤ 255) (hb : 0 ≤ b ∧ b ≤ 255) (hc : 0 ≤ c ∧ c ≤ 255) : F_law04_OffsetFields [.i a, .i b, .i c, .b d] = some [.b true] := by
  obtain ⟨h, hh⟩ : ∃ h : Nat, a % 168 = h := ⟨(a % 168).toNat, by omega⟩
  obtain ⟨m, hm⟩ : ∃ m : Nat, b % 60 = m := ⟨(b % 60).toNat, by omega⟩
  obtain ⟨s, hs⟩ : ∃ s : Nat, c % 60 = s := ⟨(c % 60).toNat, by omega⟩
  have h168 : h < 168 := by omega
  have hm60 : m < 60 := by omega
  have hs60 : s < 60 := by omega
  have hl := dec_len3 (h := h) (by omega)
  have E1 : i64 (Int.tmod a 168) = h := by rw [tmod_nn ha.1, hh, i64_in _ (by omega)]
  have E2 : i64 (Int.tmod b 60) = m := by rw [tmod_nn hb.1, hm, i64_in _ (by omega)]
  have E3 : i64 (Int.tmod c 60) = s := by rw [tmod_nn hc.1, hs, i64_in _ (by omega)]
  have E4 : i64 (i64 (i64 (3600 * (h : Int)) + i64 (60 * (m : Int))) + (s : Int)) = 3600 * (h : Int) + 60 * (m : Int) + (s : Int) := by
    rw [i64_in (3600 * (h : Int)) (by omega), i64_in (60 * (m : Int)) (by omega), i64_in (3600 * (h : Int) + 60 * (m : Int)) (by omega), i64_in (_ + (s : Int)) (by omega)]
  have E5 := bytes_two hm60
  have E6 := bytes_two hs60
  clear hh hm hs ha hb hc
  have f3 := form3 h168 hm60 hs60
  have f2 := form2 h168 hm60
  have f1 := form1 h168
  have g3 := form3n h168 hm60 hs60
  have g2 := form2n h168 hm60
  have g1 := form1n h168
  have hp := pr_h h168 hm60 hs60
  have hpv := print_at (x := 3600 * (h : Int) + 60 * (m : Int) + (s : Int)) (by omega) (by omega)
  have E7 : i64 (0 - (3600 * (h : Int) + 60 * (m : Int) + (s : Int))) = -(3600 * (h : Int) + 60 * (m : Int) + (s : Int)) := by rw [i64_in _ (by omega)]; omega
  obtain ⟨v, hv⟩ : ∃ v, v = 3600 * (h : Int) + 60 * (m : Int) + (s : Int) := ⟨_, rfl⟩
  rw [← hv] at E4 f3 g3 hp hpv E7
  have hz : (((0 : Nat) : Int) = 0) = True := by simp
  have hcut := fun t hl => cut_at (a := decDigits h) (t := t) (digits_not58 (dec_digits (by omega))) hl
  by_cases hs0 : s = 0
  · subst hs0
    rw [show 3600 * (h : Int) + 60 * (m : Int) + 0 = v by omega] at f2 g2
    rw [if_pos rfl, List.append_nil] at hp
    have hct := hcut (twoD m) (by rw [twl]; omega)
    have heq : (decDigits h ++ 58 :: twoD m == decDigits h ++ [58] ++ twoD m) = true := beq_t (by simp)
    by_cases hm0 : m = 0
    · subst hm0
      rw [show 3600 * (h : Int) + 60 * 0 + 0 = v by omega] at f1 g1
      have hD := lists3 (decDigits h) hl.1 hl.2
      generalize decDigits h = D at *
      unfold F_law04_OffsetFields
      clear hl hcut
      by_cases h0 : v = 0
      · rw [if_pos h0] at g1 g2 g3
        subst h0
        cases d <;> (rcases hD with ⟨x, rfl⟩ | ⟨x, y, rfl⟩ | ⟨x, y, z, rfl⟩ <;> simp only [onI_c, onS_c, onB_c, onN_c, onL_c, Option.bind_some, Option.map_some, cond_true, cond_false, ↓onI_c, ↓onS_c, ↓onB_c, ↓onN_c, ↓onL_c, ↓Option.bind_some, ↓cond_true, ↓cond_false, Bool.not_true, Bool.not_false, Int.toNat_natCast, List.length_append, List.length_cons, List.length_nil, List.drop_zero, Nat.zero_add, Nat.add_zero, decT, decF, eq_self, Nat.reduceAdd, Nat.reduceLeDiff, Int.reduceLE, Int.reduceLT, Int.reduceEq, Int.reduceNeg, Nat.reduceEqDiff, not_true_eq_false, not_false_eq_true, ne_eq, and_true, true_and, and_self, E1, E2, E3, E4, E5, E6, E7, hpv, hp, hct, twl, f1, f2, f3, g1, g2, g3, works_at, heq, hz])
      · rw [if_neg h0] at g1 g2 g3
        cases d <;> (rcases hD with ⟨x, rfl⟩ | ⟨x, y, rfl⟩ | ⟨x, y, z, rfl⟩ <;> simp only [onI_c, onS_c, onB_c, onN_c, onL_c, Option.bind_some, Option.map_some, cond_true, cond_false, ↓onI_c, ↓onS_c, ↓onB_c, ↓onN_c, ↓onL_c, ↓Option.bind_some, ↓cond_true, ↓cond_false, Bool.not_true, Bool.not_false, Int.toNat_natCast, List.length_append, List.length_cons, List.length_nil, List.drop_zero, Nat.zero_add, Nat.add_zero, decT, decF, eq_self, Nat.reduceAdd, Nat.reduceLeDiff, Int.reduceLE, Int.reduceLT, Int.reduceEq, Int.reduceNeg, Nat.reduceEqDiff, not_true_eq_false, not_false_eq_true, ne_eq, and_true, true_and, and_self, E1, E2, E3, E4, E5, E6, E7, hpv, hp, hct, twl, f1, f2, f3, g1, g2, g3, works_at, heq, h0, hz])
    · have h0 : v ≠ 0 := by omega
      have hm0' : ¬ (m : Int) = 0 := by omega
      rw [if_neg h0] at g2 g3
      have hD := lists3 (decDigits h) hl.1 hl.2
      generalize decDigits h = D at *
      unfold F_law04_OffsetFields
      clear hl hcut
      cases d <;> (rcases hD with ⟨x, rfl⟩ | ⟨x, y, rfl⟩ | ⟨x, y, z, rfl⟩ <;> simp only [onI_c, onS_c, onB_c, onN_c, onL_c, Option.bind_some, Option.map_some, cond_true, cond_false, ↓onI_c, ↓onS_c, ↓onB_c, ↓onN_c, ↓onL_c, ↓Option.bind_some, ↓cond_true, ↓cond_false, Bool.not_true, Bool.not_false, Int.toNat_natCast, List.length_append, List.length_cons, List.length_nil, List.drop_zero, Nat.zero_add, Nat.add_zero, decT, decF, eq_self, Nat.reduceAdd, Nat.reduceLeDiff, Int.reduceLE, Int.reduceLT, Int.reduceEq, Int.reduceNeg, Nat.reduceEqDiff, not_true_eq_false, not_false_eq_true, ne_eq, and_true, true_and, and_self, E1, E2, E3, E4, E5, E6, E7, hpv, hp, hct, twl, f2, f3, g2, g3, works_at, heq, h0, hz, hm0'])
  · rw [if_neg hs0] at hp
    have hs0' : ¬ (s : Int) = 0 := by omega
    have hct := hcut (twoD m ++ 58 :: twoD s) (by simp [twoD]; omega)
    have heq : (decDigits h ++ 58 :: (twoD m ++ 58 :: twoD s) == decDigits h ++ [58] ++ twoD m ++ [58] ++ twoD s) = true := beq_t (by simp)
    have h0 : v ≠ 0 := by omega
    rw [if_neg h0] at g3
    have hD := lists3 (decDigits h) hl.1 hl.2
    generalize decDigits h = D at *
    unfold F_law04_OffsetFields
    clear hl hcut
    cases d <;> (rcases hD with ⟨x, rfl⟩ | ⟨x, y, rfl⟩ | ⟨x, y, z, rfl⟩ <;> simp only [onI_c, onS_c, onB_c, onN_c, onL_c, Option.bind_some, Option.map_some, cond_true, cond_false, ↓onI_c, ↓onS_c, ↓onB_c, ↓onN_c, ↓onL_c, ↓Option.bind_some, ↓cond_true, ↓cond_false, Bool.not_true, Bool.not_false, Int.toNat_natCast, List.length_append, List.length_cons, List.length_nil, List.drop_zero, Nat.zero_add, Nat.add_zero, decT, decF, eq_self, Nat.reduceAdd, Nat.reduceLeDiff, Int.reduceLE, Int.reduceLT, Int.reduceEq, Int.reduceNeg, Nat.reduceEqDiff, not_true_eq_false, not_false_eq_true, ne_eq, and_true, true_and, and_self, E1, E2, E3, E4, E5, E6, E7, hpv, hp, hct, twl, f3, g3, works_at, heq, h0, hz, hs0'])
theorem lawP_OffsetFields {dats : List Dat} (h : DatOk tau [.int .u8, .int .u8, .int .u8, .bool] dats) : F_law04_OffsetFields dats = some [.b true] := by
  obtain ⟨x, r, rfl, hx, y, r, rfl, hy, z, r, rfl, hz, b, r, rfl, rfl⟩ := h
  exact law_OffsetFields (wf_u8 hx) (wf_u8 hy) (wf_u8 hz)
end Go.Proofs.YtdpjkapaphelhaaDoor
