/-
  Checked numbers: the laws for two numbers, on.
-/
import Derived.Test.YtkjlobjnboljbaaMChkBchk
namespace Go.Proofs.Ytkjlobjnboljbaa
open Go.Ax Go.Lib
set_option linter.all false
set_option maxHeartbeats 16000000
set_option maxRecDepth 100000
attribute [local congr] cond_cong bind_cong onI_cong onB_cong onS_cong onN_cong onL_cong

/-- The last part of CheckedJust. -/
theorem law_just {a b : Int} (ha : In6 a) (hb : In6 b) : F_law03_CheckedJust [.i a, .i b] = some [.b true] := by
  unfold F_law03_CheckedJust
  have p1 := kadd_at ha hb
  have p2 := kadd_at hb ha
  have p3 := kmul_at ha hb
  have p4 := kmul_at hb ha
  rw [Int.add_comm b a] at p2
  rw [Int.mul_comm b a] at p4
  have p5 := ksub_at ha hb
  have p6 : b ≠ -9223372036854775808 → F_checked_Add [.i a, .i (i64 (0 - b))] = some (pr6 (a - b)) := by
    intro h
    have e := i64_in (0 - b) (by unfold In6 at hb; omega)
    rw [e, kadd_at ha (by unfold In6 at *; omega), show a + (0 - b) = a - b by omega]
  obtain ⟨x3, o3, e3⟩ := pr6_s (a * b)
  obtain ⟨x5, o5, e5⟩ := pr6_s (a - b)
  rw [e3] at p3 p4
  rw [e5] at p5 p6
  have i1 := kis_same
  -- quotients
  have hd : ∃ x y p q, F_checked_Div [.i a, .i b] = some [.i x, .b p] ∧ F_checked_Mod [.i a, .i b] = some [.i y, .b q] ∧ q = decide (b ≠ 0) ∧ p = (decide (b ≠ 0) && (decide (b ≠ -1) || decide (a ≠ -9223372036854775808))) := by
    by_cases b0 : b = 0
    · subst b0
      exact ⟨_, _, _, _, kdiv0_at a, kmod0_at a, by decide, by simp⟩
    · by_cases hm : b = -1 ∧ a = -9223372036854775808
      · obtain ⟨rfl, rfl⟩ := hm
        have h := kdiv_at ha hb b0
        rw [pr6_out (by decide)] at h
        exact ⟨_, _, _, _, h, kmod_at ha hb b0, by decide, by decide⟩
      · have h := kdiv_at ha hb b0
        rw [pr6_in (kfd_in ha hb b0 hm)] at h
        refine ⟨_, _, _, _, h, kmod_at ha hb b0, by simp [b0], ?_⟩
        simp only [ne_eq, b0, not_false_eq_true, decide_true, Bool.true_and]
        by_cases h1 : b = -1
        · have h2 : a ≠ -9223372036854775808 := fun q => hm ⟨h1, q⟩
          simp [h1, h2]
        · simp [h1]
  obtain ⟨x7, y7, p, q, p7, p8, hq, hp⟩ := hd
  unfold In6 at ha hb
  have hw : ∃ w : Bool, w = decide (In6 (a + b)) := ⟨_, rfl⟩
  obtain ⟨w, hw⟩ := hw
  have hadd : pr6 (a + b) = [.i (bif w then a + b else 0), .b w] := by
    unfold pr6
    by_cases h : In6 (a + b)
    · rw [if_pos h, hw, decide_eq_true h]; rfl
    · rw [if_neg h, hw, decide_eq_false h]; rfl
  rw [hadd] at p1 p2
  have t1 : (true == true) = true := rfl
  have t2 : (true == false) = false := rfl
  have t3 : (false == true) = false := rfl
  have t4 : (false == false) = true := rfl
  have t5 : ∀ x : Int, decide (x = x) = true := fun x => decide_eq_true rfl
  by_cases a0 : 0 ≤ a
  · by_cases b0 : 0 ≤ b
    · have u1 := u64_in a (by omega)
      have u2 := u64_in b (by omega)
      have u3 := u64_in (a + b) (by omega)
      by_cases hf : a + b ≤ 9223372036854775807
      · have hw1 : w = true := by rw [hw]; exact decide_eq_true ⟨by omega, hf⟩
        have u4 := i64_in (a + b) (by omega)
        subst hw1
        have z1 : decide (b = 0) = true ∨ decide (b = 0) = false := by cases decide (b = 0) <;> simp
        by_cases bz : b = 0
        · have q1 : q = false := by rw [hq]; simp [bz]
          have q2 : p = false := by rw [hp]; simp [bz]
          subst q1; subst q2
          have bm : b ≠ -9223372036854775808 := by omega
          have p6 := p6 bm
          first | (exfalso; omega) | simp (disch := first | assumption | omega) only [onI_c, onS_c, onB_c, onN_c, onL_c, Option.bind_some, Option.map_some, cond_true, cond_false, ↓onI_c, ↓onS_c, ↓onB_c, ↓onN_c, ↓onL_c, ↓Option.bind_some, ↓cond_true, ↓cond_false, decide_eq_true, decide_eq_false, Bool.not_true, Bool.not_false, Int.toNat_natCast, List.length_append, List.length_cons, List.length_nil, List.drop_zero, Nat.zero_add, Nat.add_zero, decT, decF, bneI_t, bneI_f, u1, u2, u3, u4, p1, p2, p3, p4, i1, p5, p6, p7, p8, kworks_at, ↓t1, ↓t2, ↓t3, ↓t4, ↓t5]
        · have q1 : q = true := by rw [hq]; simp [bz]
          subst q1
          by_cases bm : b = -9223372036854775808
          · have q2 : p = true := by rw [hp]; simp [bm]
            subst q2
            have b1 : b ≠ -1 := by omega
            first | (exfalso; omega) | simp (disch := first | assumption | omega) only [onI_c, onS_c, onB_c, onN_c, onL_c, Option.bind_some, Option.map_some, cond_true, cond_false, ↓onI_c, ↓onS_c, ↓onB_c, ↓onN_c, ↓onL_c, ↓Option.bind_some, ↓cond_true, ↓cond_false, decide_eq_true, decide_eq_false, Bool.not_true, Bool.not_false, Int.toNat_natCast, List.length_append, List.length_cons, List.length_nil, List.drop_zero, Nat.zero_add, Nat.add_zero, decT, decF, bneI_t, bneI_f, u1, u2, u3, u4, p1, p2, p3, p4, i1, p5, p7, p8, kworks_at, ↓t1, ↓t2, ↓t3, ↓t4, ↓t5]
          · have p6 := p6 bm
            by_cases b1 : b = -1
            · by_cases am : a = -9223372036854775808
              · have q2 : p = false := by rw [hp]; simp [b1, am]
                subst q2
                first | (exfalso; omega) | simp (disch := first | assumption | omega) only [onI_c, onS_c, onB_c, onN_c, onL_c, Option.bind_some, Option.map_some, cond_true, cond_false, ↓onI_c, ↓onS_c, ↓onB_c, ↓onN_c, ↓onL_c, ↓Option.bind_some, ↓cond_true, ↓cond_false, decide_eq_true, decide_eq_false, Bool.not_true, Bool.not_false, Int.toNat_natCast, List.length_append, List.length_cons, List.length_nil, List.drop_zero, Nat.zero_add, Nat.add_zero, decT, decF, bneI_t, bneI_f, u1, u2, u3, u4, p1, p2, p3, p4, i1, p5, p6, p7, p8, kworks_at, ↓t1, ↓t2, ↓t3, ↓t4, ↓t5]
              · have q2 : p = true := by rw [hp]; simp [b1, am]
                subst q2
                first | (exfalso; omega) | simp (disch := first | assumption | omega) only [onI_c, onS_c, onB_c, onN_c, onL_c, Option.bind_some, Option.map_some, cond_true, cond_false, ↓onI_c, ↓onS_c, ↓onB_c, ↓onN_c, ↓onL_c, ↓Option.bind_some, ↓cond_true, ↓cond_false, decide_eq_true, decide_eq_false, Bool.not_true, Bool.not_false, Int.toNat_natCast, List.length_append, List.length_cons, List.length_nil, List.drop_zero, Nat.zero_add, Nat.add_zero, decT, decF, bneI_t, bneI_f, u1, u2, u3, u4, p1, p2, p3, p4, i1, p5, p6, p7, p8, kworks_at, ↓t1, ↓t2, ↓t3, ↓t4, ↓t5]
            · have q2 : p = true := by rw [hp]; simp [b1, bz]
              subst q2
              simp (disch := first | assumption | omega) only [onI_c, onS_c, onB_c, onN_c, onL_c, Option.bind_some, Option.map_some, cond_true, cond_false, ↓onI_c, ↓onS_c, ↓onB_c, ↓onN_c, ↓onL_c, ↓Option.bind_some, ↓cond_true, ↓cond_false, decide_eq_true, decide_eq_false, Bool.not_true, Bool.not_false, Int.toNat_natCast, List.length_append, List.length_cons, List.length_nil, List.drop_zero, Nat.zero_add, Nat.add_zero, decT, decF, bneI_t, bneI_f, u1, u2, u3, u4, p1, p2, p3, p4, i1, p5, p6, p7, p8, kworks_at, ↓t1, ↓t2, ↓t3, ↓t4, ↓t5]
      · have hw1 : w = false := by rw [hw]; exact decide_eq_false (by unfold In6; omega)
        subst hw1
        have z1 : decide (b = 0) = true ∨ decide (b = 0) = false := by cases decide (b = 0) <;> simp
        by_cases bz : b = 0
        · have q1 : q = false := by rw [hq]; simp [bz]
          have q2 : p = false := by rw [hp]; simp [bz]
          subst q1; subst q2
          have bm : b ≠ -9223372036854775808 := by omega
          have p6 := p6 bm
          first | (exfalso; omega) | simp (disch := first | assumption | omega) only [onI_c, onS_c, onB_c, onN_c, onL_c, Option.bind_some, Option.map_some, cond_true, cond_false, ↓onI_c, ↓onS_c, ↓onB_c, ↓onN_c, ↓onL_c, ↓Option.bind_some, ↓cond_true, ↓cond_false, decide_eq_true, decide_eq_false, Bool.not_true, Bool.not_false, Int.toNat_natCast, List.length_append, List.length_cons, List.length_nil, List.drop_zero, Nat.zero_add, Nat.add_zero, decT, decF, bneI_t, bneI_f, u1, u2, u3, p1, p2, p3, p4, i1, p5, p6, p7, p8, kworks_at, ↓t1, ↓t2, ↓t3, ↓t4, ↓t5]
        · have q1 : q = true := by rw [hq]; simp [bz]
          subst q1
          by_cases bm : b = -9223372036854775808
          · have q2 : p = true := by rw [hp]; simp [bm]
            subst q2
            have b1 : b ≠ -1 := by omega
            first | (exfalso; omega) | simp (disch := first | assumption | omega) only [onI_c, onS_c, onB_c, onN_c, onL_c, Option.bind_some, Option.map_some, cond_true, cond_false, ↓onI_c, ↓onS_c, ↓onB_c, ↓onN_c, ↓onL_c, ↓Option.bind_some, ↓cond_true, ↓cond_false, decide_eq_true, decide_eq_false, Bool.not_true, Bool.not_false, Int.toNat_natCast, List.length_append, List.length_cons, List.length_nil, List.drop_zero, Nat.zero_add, Nat.add_zero, decT, decF, bneI_t, bneI_f, u1, u2, u3, p1, p2, p3, p4, i1, p5, p7, p8, kworks_at, ↓t1, ↓t2, ↓t3, ↓t4, ↓t5]
          · have p6 := p6 bm
            by_cases b1 : b = -1
            · by_cases am : a = -9223372036854775808
              · have q2 : p = false := by rw [hp]; simp [b1, am]
                subst q2
                first | (exfalso; omega) | simp (disch := first | assumption | omega) only [onI_c, onS_c, onB_c, onN_c, onL_c, Option.bind_some, Option.map_some, cond_true, cond_false, ↓onI_c, ↓onS_c, ↓onB_c, ↓onN_c, ↓onL_c, ↓Option.bind_some, ↓cond_true, ↓cond_false, decide_eq_true, decide_eq_false, Bool.not_true, Bool.not_false, Int.toNat_natCast, List.length_append, List.length_cons, List.length_nil, List.drop_zero, Nat.zero_add, Nat.add_zero, decT, decF, bneI_t, bneI_f, u1, u2, u3, p1, p2, p3, p4, i1, p5, p6, p7, p8, kworks_at, ↓t1, ↓t2, ↓t3, ↓t4, ↓t5]
              · have q2 : p = true := by rw [hp]; simp [b1, am]
                subst q2
                first | (exfalso; omega) | simp (disch := first | assumption | omega) only [onI_c, onS_c, onB_c, onN_c, onL_c, Option.bind_some, Option.map_some, cond_true, cond_false, ↓onI_c, ↓onS_c, ↓onB_c, ↓onN_c, ↓onL_c, ↓Option.bind_some, ↓cond_true, ↓cond_false, decide_eq_true, decide_eq_false, Bool.not_true, Bool.not_false, Int.toNat_natCast, List.length_append, List.length_cons, List.length_nil, List.drop_zero, Nat.zero_add, Nat.add_zero, decT, decF, bneI_t, bneI_f, u1, u2, u3, p1, p2, p3, p4, i1, p5, p6, p7, p8, kworks_at, ↓t1, ↓t2, ↓t3, ↓t4, ↓t5]
            · have q2 : p = true := by rw [hp]; simp [b1, bz]
              subst q2
              simp (disch := first | assumption | omega) only [onI_c, onS_c, onB_c, onN_c, onL_c, Option.bind_some, Option.map_some, cond_true, cond_false, ↓onI_c, ↓onS_c, ↓onB_c, ↓onN_c, ↓onL_c, ↓Option.bind_some, ↓cond_true, ↓cond_false, decide_eq_true, decide_eq_false, Bool.not_true, Bool.not_false, Int.toNat_natCast, List.length_append, List.length_cons, List.length_nil, List.drop_zero, Nat.zero_add, Nat.add_zero, decT, decF, bneI_t, bneI_f, u1, u2, u3, p1, p2, p3, p4, i1, p5, p6, p7, p8, kworks_at, ↓t1, ↓t2, ↓t3, ↓t4, ↓t5]
    · have hw1 : w = true := by rw [hw]; exact decide_eq_true ⟨by omega, by omega⟩
      have u4 := i64_in (a + b) (by omega)
      subst hw1
      have z1 : decide (b = 0) = true ∨ decide (b = 0) = false := by cases decide (b = 0) <;> simp
      by_cases bz : b = 0
      · have q1 : q = false := by rw [hq]; simp [bz]
        have q2 : p = false := by rw [hp]; simp [bz]
        subst q1; subst q2
        have bm : b ≠ -9223372036854775808 := by omega
        have p6 := p6 bm
        first | (exfalso; omega) | simp (disch := first | assumption | omega) only [onI_c, onS_c, onB_c, onN_c, onL_c, Option.bind_some, Option.map_some, cond_true, cond_false, ↓onI_c, ↓onS_c, ↓onB_c, ↓onN_c, ↓onL_c, ↓Option.bind_some, ↓cond_true, ↓cond_false, decide_eq_true, decide_eq_false, Bool.not_true, Bool.not_false, Int.toNat_natCast, List.length_append, List.length_cons, List.length_nil, List.drop_zero, Nat.zero_add, Nat.add_zero, decT, decF, bneI_t, bneI_f, u4, p1, p2, p3, p4, i1, p5, p6, p7, p8, kworks_at, ↓t1, ↓t2, ↓t3, ↓t4, ↓t5]
      · have q1 : q = true := by rw [hq]; simp [bz]
        subst q1
        by_cases bm : b = -9223372036854775808
        · have q2 : p = true := by rw [hp]; simp [bm]
          subst q2
          have b1 : b ≠ -1 := by omega
          first | (exfalso; omega) | simp (disch := first | assumption | omega) only [onI_c, onS_c, onB_c, onN_c, onL_c, Option.bind_some, Option.map_some, cond_true, cond_false, ↓onI_c, ↓onS_c, ↓onB_c, ↓onN_c, ↓onL_c, ↓Option.bind_some, ↓cond_true, ↓cond_false, decide_eq_true, decide_eq_false, Bool.not_true, Bool.not_false, Int.toNat_natCast, List.length_append, List.length_cons, List.length_nil, List.drop_zero, Nat.zero_add, Nat.add_zero, decT, decF, bneI_t, bneI_f, u4, p1, p2, p3, p4, i1, p5, p7, p8, kworks_at, ↓t1, ↓t2, ↓t3, ↓t4, ↓t5]
        · have p6 := p6 bm
          by_cases b1 : b = -1
          · by_cases am : a = -9223372036854775808
            · have q2 : p = false := by rw [hp]; simp [b1, am]
              subst q2
              first | (exfalso; omega) | simp (disch := first | assumption | omega) only [onI_c, onS_c, onB_c, onN_c, onL_c, Option.bind_some, Option.map_some, cond_true, cond_false, ↓onI_c, ↓onS_c, ↓onB_c, ↓onN_c, ↓onL_c, ↓Option.bind_some, ↓cond_true, ↓cond_false, decide_eq_true, decide_eq_false, Bool.not_true, Bool.not_false, Int.toNat_natCast, List.length_append, List.length_cons, List.length_nil, List.drop_zero, Nat.zero_add, Nat.add_zero, decT, decF, bneI_t, bneI_f, u4, p1, p2, p3, p4, i1, p5, p6, p7, p8, kworks_at, ↓t1, ↓t2, ↓t3, ↓t4, ↓t5]
            · have q2 : p = true := by rw [hp]; simp [b1, am]
              subst q2
              first | (exfalso; omega) | simp (disch := first | assumption | omega) only [onI_c, onS_c, onB_c, onN_c, onL_c, Option.bind_some, Option.map_some, cond_true, cond_false, ↓onI_c, ↓onS_c, ↓onB_c, ↓onN_c, ↓onL_c, ↓Option.bind_some, ↓cond_true, ↓cond_false, decide_eq_true, decide_eq_false, Bool.not_true, Bool.not_false, Int.toNat_natCast, List.length_append, List.length_cons, List.length_nil, List.drop_zero, Nat.zero_add, Nat.add_zero, decT, decF, bneI_t, bneI_f, u4, p1, p2, p3, p4, i1, p5, p6, p7, p8, kworks_at, ↓t1, ↓t2, ↓t3, ↓t4, ↓t5]
          · have q2 : p = true := by rw [hp]; simp [b1, bz]
            subst q2
            simp (disch := first | assumption | omega) only [onI_c, onS_c, onB_c, onN_c, onL_c, Option.bind_some, Option.map_some, cond_true, cond_false, ↓onI_c, ↓onS_c, ↓onB_c, ↓onN_c, ↓onL_c, ↓Option.bind_some, ↓cond_true, ↓cond_false, decide_eq_true, decide_eq_false, Bool.not_true, Bool.not_false, Int.toNat_natCast, List.length_append, List.length_cons, List.length_nil, List.drop_zero, Nat.zero_add, Nat.add_zero, decT, decF, bneI_t, bneI_f, u4, p1, p2, p3, p4, i1, p5, p6, p7, p8, kworks_at, ↓t1, ↓t2, ↓t3, ↓t4, ↓t5]
  · by_cases b0 : 0 ≤ b
    · have hw1 : w = true := by rw [hw]; exact decide_eq_true ⟨by omega, by omega⟩
      have u4 := i64_in (a + b) (by omega)
      subst hw1
      have z1 : decide (b = 0) = true ∨ decide (b = 0) = false := by cases decide (b = 0) <;> simp
      by_cases bz : b = 0
      · have q1 : q = false := by rw [hq]; simp [bz]
        have q2 : p = false := by rw [hp]; simp [bz]
        subst q1; subst q2
        have bm : b ≠ -9223372036854775808 := by omega
        have p6 := p6 bm
        first | (exfalso; omega) | simp (disch := first | assumption | omega) only [onI_c, onS_c, onB_c, onN_c, onL_c, Option.bind_some, Option.map_some, cond_true, cond_false, ↓onI_c, ↓onS_c, ↓onB_c, ↓onN_c, ↓onL_c, ↓Option.bind_some, ↓cond_true, ↓cond_false, decide_eq_true, decide_eq_false, Bool.not_true, Bool.not_false, Int.toNat_natCast, List.length_append, List.length_cons, List.length_nil, List.drop_zero, Nat.zero_add, Nat.add_zero, decT, decF, bneI_t, bneI_f, u4, p1, p2, p3, p4, i1, p5, p6, p7, p8, kworks_at, ↓t1, ↓t2, ↓t3, ↓t4, ↓t5]
      · have q1 : q = true := by rw [hq]; simp [bz]
        subst q1
        by_cases bm : b = -9223372036854775808
        · have q2 : p = true := by rw [hp]; simp [bm]
          subst q2
          have b1 : b ≠ -1 := by omega
          first | (exfalso; omega) | simp (disch := first | assumption | omega) only [onI_c, onS_c, onB_c, onN_c, onL_c, Option.bind_some, Option.map_some, cond_true, cond_false, ↓onI_c, ↓onS_c, ↓onB_c, ↓onN_c, ↓onL_c, ↓Option.bind_some, ↓cond_true, ↓cond_false, decide_eq_true, decide_eq_false, Bool.not_true, Bool.not_false, Int.toNat_natCast, List.length_append, List.length_cons, List.length_nil, List.drop_zero, Nat.zero_add, Nat.add_zero, decT, decF, bneI_t, bneI_f, u4, p1, p2, p3, p4, i1, p5, p7, p8, kworks_at, ↓t1, ↓t2, ↓t3, ↓t4, ↓t5]
        · have p6 := p6 bm
          by_cases b1 : b = -1
          · by_cases am : a = -9223372036854775808
            · have q2 : p = false := by rw [hp]; simp [b1, am]
              subst q2
              first | (exfalso; omega) | simp (disch := first | assumption | omega) only [onI_c, onS_c, onB_c, onN_c, onL_c, Option.bind_some, Option.map_some, cond_true, cond_false, ↓onI_c, ↓onS_c, ↓onB_c, ↓onN_c, ↓onL_c, ↓Option.bind_some, ↓cond_true, ↓cond_false, decide_eq_true, decide_eq_false, Bool.not_true, Bool.not_false, Int.toNat_natCast, List.length_append, List.length_cons, List.length_nil, List.drop_zero, Nat.zero_add, Nat.add_zero, decT, decF, bneI_t, bneI_f, u4, p1, p2, p3, p4, i1, p5, p6, p7, p8, kworks_at, ↓t1, ↓t2, ↓t3, ↓t4, ↓t5]
            · have q2 : p = true := by rw [hp]; simp [b1, am]
              subst q2
              first | (exfalso; omega) | simp (disch := first | assumption | omega) only [onI_c, onS_c, onB_c, onN_c, onL_c, Option.bind_some, Option.map_some, cond_true, cond_false, ↓onI_c, ↓onS_c, ↓onB_c, ↓onN_c, ↓onL_c, ↓Option.bind_some, ↓cond_true, ↓cond_false, decide_eq_true, decide_eq_false, Bool.not_true, Bool.not_false, Int.toNat_natCast, List.length_append, List.length_cons, List.length_nil, List.drop_zero, Nat.zero_add, Nat.add_zero, decT, decF, bneI_t, bneI_f, u4, p1, p2, p3, p4, i1, p5, p6, p7, p8, kworks_at, ↓t1, ↓t2, ↓t3, ↓t4, ↓t5]
          · have q2 : p = true := by rw [hp]; simp [b1, bz]
            subst q2
            simp (disch := first | assumption | omega) only [onI_c, onS_c, onB_c, onN_c, onL_c, Option.bind_some, Option.map_some, cond_true, cond_false, ↓onI_c, ↓onS_c, ↓onB_c, ↓onN_c, ↓onL_c, ↓Option.bind_some, ↓cond_true, ↓cond_false, decide_eq_true, decide_eq_false, Bool.not_true, Bool.not_false, Int.toNat_natCast, List.length_append, List.length_cons, List.length_nil, List.drop_zero, Nat.zero_add, Nat.add_zero, decT, decF, bneI_t, bneI_f, u4, p1, p2, p3, p4, i1, p5, p6, p7, p8, kworks_at, ↓t1, ↓t2, ↓t3, ↓t4, ↓t5]
    · have u1 := i64_in (a + 1) (by omega)
      have u2 := i64_in (b + 1) (by omega)
      have u3 := i64_in (0 - (a + 1)) (by omega)
      have u5 := i64_in (0 - (b + 1)) (by omega)
      have u6 := u64_in (0 - (a + 1)) (by omega)
      have u7 := u64_in (0 - (b + 1)) (by omega)
      have u8 := u64_in (0 - (a + 1) + (0 - (b + 1))) (by omega)
      by_cases hf : -9223372036854775808 ≤ a + b
      · have hw1 : w = true := by rw [hw]; exact decide_eq_true ⟨hf, by omega⟩
        have u4 := i64_in (a + b) (by omega)
        subst hw1
        have z1 : decide (b = 0) = true ∨ decide (b = 0) = false := by cases decide (b = 0) <;> simp
        by_cases bz : b = 0
        · have q1 : q = false := by rw [hq]; simp [bz]
          have q2 : p = false := by rw [hp]; simp [bz]
          subst q1; subst q2
          have bm : b ≠ -9223372036854775808 := by omega
          have p6 := p6 bm
          first | (exfalso; omega) | simp (disch := first | assumption | omega) only [onI_c, onS_c, onB_c, onN_c, onL_c, Option.bind_some, Option.map_some, cond_true, cond_false, ↓onI_c, ↓onS_c, ↓onB_c, ↓onN_c, ↓onL_c, ↓Option.bind_some, ↓cond_true, ↓cond_false, decide_eq_true, decide_eq_false, Bool.not_true, Bool.not_false, Int.toNat_natCast, List.length_append, List.length_cons, List.length_nil, List.drop_zero, Nat.zero_add, Nat.add_zero, decT, decF, bneI_t, bneI_f, u1, u2, u3, u4, u5, u6, u7, u8, p1, p2, p3, p4, i1, p5, p6, p7, p8, kworks_at, ↓t1, ↓t2, ↓t3, ↓t4, ↓t5]
        · have q1 : q = true := by rw [hq]; simp [bz]
          subst q1
          by_cases bm : b = -9223372036854775808
          · have q2 : p = true := by rw [hp]; simp [bm]
            subst q2
            have b1 : b ≠ -1 := by omega
            first | (exfalso; omega) | simp (disch := first | assumption | omega) only [onI_c, onS_c, onB_c, onN_c, onL_c, Option.bind_some, Option.map_some, cond_true, cond_false, ↓onI_c, ↓onS_c, ↓onB_c, ↓onN_c, ↓onL_c, ↓Option.bind_some, ↓cond_true, ↓cond_false, decide_eq_true, decide_eq_false, Bool.not_true, Bool.not_false, Int.toNat_natCast, List.length_append, List.length_cons, List.length_nil, List.drop_zero, Nat.zero_add, Nat.add_zero, decT, decF, bneI_t, bneI_f, u1, u2, u3, u4, u5, u6, u7, u8, p1, p2, p3, p4, i1, p5, p7, p8, kworks_at, ↓t1, ↓t2, ↓t3, ↓t4, ↓t5]
          · have p6 := p6 bm
            by_cases b1 : b = -1
            · by_cases am : a = -9223372036854775808
              · have q2 : p = false := by rw [hp]; simp [b1, am]
                subst q2
                first | (exfalso; omega) | simp (disch := first | assumption | omega) only [onI_c, onS_c, onB_c, onN_c, onL_c, Option.bind_some, Option.map_some, cond_true, cond_false, ↓onI_c, ↓onS_c, ↓onB_c, ↓onN_c, ↓onL_c, ↓Option.bind_some, ↓cond_true, ↓cond_false, decide_eq_true, decide_eq_false, Bool.not_true, Bool.not_false, Int.toNat_natCast, List.length_append, List.length_cons, List.length_nil, List.drop_zero, Nat.zero_add, Nat.add_zero, decT, decF, bneI_t, bneI_f, u1, u2, u3, u4, u5, u6, u7, u8, p1, p2, p3, p4, i1, p5, p6, p7, p8, kworks_at, ↓t1, ↓t2, ↓t3, ↓t4, ↓t5]
              · have q2 : p = true := by rw [hp]; simp [b1, am]
                subst q2
                first | (exfalso; omega) | simp (disch := first | assumption | omega) only [onI_c, onS_c, onB_c, onN_c, onL_c, Option.bind_some, Option.map_some, cond_true, cond_false, ↓onI_c, ↓onS_c, ↓onB_c, ↓onN_c, ↓onL_c, ↓Option.bind_some, ↓cond_true, ↓cond_false, decide_eq_true, decide_eq_false, Bool.not_true, Bool.not_false, Int.toNat_natCast, List.length_append, List.length_cons, List.length_nil, List.drop_zero, Nat.zero_add, Nat.add_zero, decT, decF, bneI_t, bneI_f, u1, u2, u3, u4, u5, u6, u7, u8, p1, p2, p3, p4, i1, p5, p6, p7, p8, kworks_at, ↓t1, ↓t2, ↓t3, ↓t4, ↓t5]
            · have q2 : p = true := by rw [hp]; simp [b1, bz]
              subst q2
              simp (disch := first | assumption | omega) only [onI_c, onS_c, onB_c, onN_c, onL_c, Option.bind_some, Option.map_some, cond_true, cond_false, ↓onI_c, ↓onS_c, ↓onB_c, ↓onN_c, ↓onL_c, ↓Option.bind_some, ↓cond_true, ↓cond_false, decide_eq_true, decide_eq_false, Bool.not_true, Bool.not_false, Int.toNat_natCast, List.length_append, List.length_cons, List.length_nil, List.drop_zero, Nat.zero_add, Nat.add_zero, decT, decF, bneI_t, bneI_f, u1, u2, u3, u4, u5, u6, u7, u8, p1, p2, p3, p4, i1, p5, p6, p7, p8, kworks_at, ↓t1, ↓t2, ↓t3, ↓t4, ↓t5]
      · have hw1 : w = false := by rw [hw]; exact decide_eq_false (by unfold In6; omega)
        subst hw1
        have z1 : decide (b = 0) = true ∨ decide (b = 0) = false := by cases decide (b = 0) <;> simp
        by_cases bz : b = 0
        · have q1 : q = false := by rw [hq]; simp [bz]
          have q2 : p = false := by rw [hp]; simp [bz]
          subst q1; subst q2
          have bm : b ≠ -9223372036854775808 := by omega
          have p6 := p6 bm
          first | (exfalso; omega) | simp (disch := first | assumption | omega) only [onI_c, onS_c, onB_c, onN_c, onL_c, Option.bind_some, Option.map_some, cond_true, cond_false, ↓onI_c, ↓onS_c, ↓onB_c, ↓onN_c, ↓onL_c, ↓Option.bind_some, ↓cond_true, ↓cond_false, decide_eq_true, decide_eq_false, Bool.not_true, Bool.not_false, Int.toNat_natCast, List.length_append, List.length_cons, List.length_nil, List.drop_zero, Nat.zero_add, Nat.add_zero, decT, decF, bneI_t, bneI_f, u1, u2, u3, u5, u6, u7, u8, p1, p2, p3, p4, i1, p5, p6, p7, p8, kworks_at, ↓t1, ↓t2, ↓t3, ↓t4, ↓t5]
        · have q1 : q = true := by rw [hq]; simp [bz]
          subst q1
          by_cases bm : b = -9223372036854775808
          · have q2 : p = true := by rw [hp]; simp [bm]
            subst q2
            have b1 : b ≠ -1 := by omega
            first | (exfalso; omega) | simp (disch := first | assumption | omega) only [onI_c, onS_c, onB_c, onN_c, onL_c, Option.bind_some, Option.map_some, cond_true, cond_false, ↓onI_c, ↓onS_c, ↓onB_c, ↓onN_c, ↓onL_c, ↓Option.bind_some, ↓cond_true, ↓cond_false, decide_eq_true, decide_eq_false, Bool.not_true, Bool.not_false, Int.toNat_natCast, List.length_append, List.length_cons, List.length_nil, List.drop_zero, Nat.zero_add, Nat.add_zero, decT, decF, bneI_t, bneI_f, u1, u2, u3, u5, u6, u7, u8, p1, p2, p3, p4, i1, p5, p7, p8, kworks_at, ↓t1, ↓t2, ↓t3, ↓t4, ↓t5]
          · have p6 := p6 bm
            by_cases b1 : b = -1
            · by_cases am : a = -9223372036854775808
              · have q2 : p = false := by rw [hp]; simp [b1, am]
                subst q2
                first | (exfalso; omega) | simp (disch := first | assumption | omega) only [onI_c, onS_c, onB_c, onN_c, onL_c, Option.bind_some, Option.map_some, cond_true, cond_false, ↓onI_c, ↓onS_c, ↓onB_c, ↓onN_c, ↓onL_c, ↓Option.bind_some, ↓cond_true, ↓cond_false, decide_eq_true, decide_eq_false, Bool.not_true, Bool.not_false, Int.toNat_natCast, List.length_append, List.length_cons, List.length_nil, List.drop_zero, Nat.zero_add, Nat.add_zero, decT, decF, bneI_t, bneI_f, u1, u2, u3, u5, u6, u7, u8, p1, p2, p3, p4, i1, p5, p6, p7, p8, kworks_at, ↓t1, ↓t2, ↓t3, ↓t4, ↓t5]
              · have q2 : p = true := by rw [hp]; simp [b1, am]
                subst q2
                first | (exfalso; omega) | simp (disch := first | assumption | omega) only [onI_c, onS_c, onB_c, onN_c, onL_c, Option.bind_some, Option.map_some, cond_true, cond_false, ↓onI_c, ↓onS_c, ↓onB_c, ↓onN_c, ↓onL_c, ↓Option.bind_some, ↓cond_true, ↓cond_false, decide_eq_true, decide_eq_false, Bool.not_true, Bool.not_false, Int.toNat_natCast, List.length_append, List.length_cons, List.length_nil, List.drop_zero, Nat.zero_add, Nat.add_zero, decT, decF, bneI_t, bneI_f, u1, u2, u3, u5, u6, u7, u8, p1, p2, p3, p4, i1, p5, p6, p7, p8, kworks_at, ↓t1, ↓t2, ↓t3, ↓t4, ↓t5]
            · have q2 : p = true := by rw [hp]; simp [b1, bz]
              subst q2
              simp (disch := first | assumption | omega) only [onI_c, onS_c, onB_c, onN_c, onL_c, Option.bind_some, Option.map_some, cond_true, cond_false, ↓onI_c, ↓onS_c, ↓onB_c, ↓onN_c, ↓onL_c, ↓Option.bind_some, ↓cond_true, ↓cond_false, decide_eq_true, decide_eq_false, Bool.not_true, Bool.not_false, Int.toNat_natCast, List.length_append, List.length_cons, List.length_nil, List.drop_zero, Nat.zero_add, Nat.add_zero, decT, decF, bneI_t, bneI_f, u1, u2, u3, u5, u6, u7, u8, p1, p2, p3, p4, i1, p5, p6, p7, p8, kworks_at, ↓t1, ↓t2, ↓t3, ↓t4, ↓t5]
theorem lawP_CheckedJust {dats : List Dat} (h : DatOk tau [.int .i64, .int .i64] dats) : F_law03_CheckedJust dats = some [.b true] := by
  obtain ⟨a, b, rfl, ha, hb⟩ := two_dat h
  exact law_just ha hb
end Go.Proofs.Ytkjlobjnboljbaa
