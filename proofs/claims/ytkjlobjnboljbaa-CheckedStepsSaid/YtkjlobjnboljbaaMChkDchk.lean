/-
  Checked numbers: steps.
-/
import Derived.Test.YtkjlobjnboljbaaMChkBchk
namespace Go.Proofs.Ytkjlobjnboljbaa
open Go.Ax Go.Lib
set_option linter.all false
set_option maxHeartbeats 16000000
set_option maxRecDepth 100000
attribute [local congr] cond_cong bind_cong onI_cong onB_cong onS_cong onN_cong onL_cong

theorem law_steps {a b c : Int} (ha : In6 a) (hb : In6 b) (hc : 0 ≤ c ∧ c ≤ 4294967295) : F_law03_CheckedSteps [.i a, .i b, .i c] = some [.b true] := by
  unfold F_law03_CheckedSteps
  have e1 := i64_in c (by omega)
  have e2 := i64_in (c + 1) (by omega)
  have k1 : 1 ≤ c + 1 := by omega
  have k2 : In6 (c + 1) := by unfold In6; omega
  generalize hk : c + 1 = k at e2 k1 k2
  have p1 := kmul_at ha hb
  have hbd := kfd_in ha k2 (b := k) (by omega) (by omega)
  have p5 := kdiv_at ha k2 (b := k) (by omega)
  have mb := (kfmod_bd a (b := k) (by omega)).1 (by omega)
  have ef : a.fdiv k * k + a.fmod k = a := by have := Int.mul_fdiv_add_fmod a k; rw [Int.mul_comm] at this; exact this
  rw [pr6_in hbd] at p5
  generalize a.fdiv k = d at *
  generalize a.fmod k = m at *
  have p6 := kmul_at hbd k2
  have z1 : In6 1 := by decide
  have p7 := kadd_at hbd z1
  have p8 : In6 (d + 1) → F_checked_Mul [.i (d + 1), .i k] = some (pr6 (d * k + k)) := fun h => by rw [kmul_at h k2, Int.add_mul, Int.one_mul]
  have hdk : ¬ a < d * k := by omega
  have hdk2 : a < d * k + k := by omega
  have p9 : ¬ In6 (d + 1) → d = 9223372036854775807 := by intro h; unfold In6 at *; omega
  have z6 : In6 0 := by decide
  have i1 := kis_same
  -- what the quotient's part says
  have hs : ∃ x o y q, F_checked_Mul [.i d, .i k] = some [.i x, .b o] ∧ F_checked_Add [.i d, .i 1] = some [.i y, .b q] ∧
      (bif o then (bif (decide (a < x)) then (some true) else (some false)) else (some false)) = some false ∧
      ((q = false ∧ d = 9223372036854775807) ∨ (q = true ∧ ∃ z r, F_checked_Mul [.i y, .i k] = some [.i z, .b r] ∧ (r = false ∨ (r = true ∧ a < z)))) := by
    have h2 : ∃ y q, F_checked_Add [.i d, .i 1] = some [.i y, .b q] ∧ ((q = false ∧ d = 9223372036854775807) ∨ (q = true ∧ ∃ z r, F_checked_Mul [.i y, .i k] = some [.i z, .b r] ∧ (r = false ∨ (r = true ∧ a < z)))) := by
      by_cases h : In6 (d + 1)
      · rw [pr6_in h] at p7
        refine ⟨_, _, p7, .inr ⟨rfl, ?_⟩⟩
        have p8 := p8 h
        by_cases h' : In6 (d * k + k)
        · rw [pr6_in h'] at p8; exact ⟨_, _, p8, .inr ⟨rfl, hdk2⟩⟩
        · rw [pr6_out h'] at p8; exact ⟨_, _, p8, .inl rfl⟩
      · rw [pr6_out h] at p7
        exact ⟨_, _, p7, .inl ⟨rfl, p9 h⟩⟩
    obtain ⟨y, q, h3, h4⟩ := h2
    by_cases h : In6 (d * k)
    · rw [pr6_in h] at p6
      exact ⟨_, _, y, q, p6, h3, by rw [decide_eq_false hdk]; rfl, h4⟩
    · rw [pr6_out h] at p6
      exact ⟨_, _, y, q, p6, h3, rfl, h4⟩
  obtain ⟨x, o, y, q, s1, s2, s3, s4⟩ := hs
  clear p6 p7 p8 p9 hdk hdk2 ef mb
  have key : ∀ X : Option (List Dat), X = some [.b true] → X = some [.b true] := fun _ h => h
  have q2 : b < 9223372036854775807 → F_checked_Mul [.i a, .i (i64 (b + 1))] = some (pr6 (a * b + a)) := by
    intro h
    have e := i64_in (b + 1) (by unfold In6 at hb; omega)
    rw [e, kmul_at ha (by unfold In6 at *; omega), Int.mul_add, Int.mul_one]
  have q3 : In6 (a * b) → F_checked_Add [.i (a * b), .i a] = some (pr6 (a * b + a)) := fun h => kadd_at h ha
  have q4 : F_checked_Add [.i 0, .i a] = some [.i a, .b true] := by rw [kadd_at z6 ha, Int.zero_add, pr6_in ha]
  generalize a * b = ab at *
  rcases s4 with ⟨rfl, s5⟩ | ⟨rfl, z, r, s5, s6⟩
  · by_cases hb1 : b < 9223372036854775807
    · have q2 := q2 hb1
      by_cases h1 : In6 ab
      · have q3 := q3 h1
        rw [pr6_in h1] at p1
        by_cases h2 : In6 (ab + a)
        · rw [pr6_in h2] at q2 q3
          simp (disch := first | assumption | omega) only [onI_c, onS_c, onB_c, onN_c, onL_c, Option.bind_some, Option.map_some, cond_true, cond_false, ↓onI_c, ↓onS_c, ↓onB_c, ↓onN_c, ↓onL_c, ↓Option.bind_some, ↓cond_true, ↓cond_false, decide_eq_true, decide_eq_false, Bool.not_true, Bool.not_false, Int.toNat_natCast, List.length_append, List.length_cons, List.length_nil, List.drop_zero, Nat.zero_add, Nat.add_zero, decT, decF, bneI_t, bneI_f, e1, hk, e2, p1, q2, q3, i1, p5, s1, s2, ↓s3, kworks_at]
        · rw [pr6_out h2] at q2 q3
          simp (disch := first | assumption | omega) only [onI_c, onS_c, onB_c, onN_c, onL_c, Option.bind_some, Option.map_some, cond_true, cond_false, ↓onI_c, ↓onS_c, ↓onB_c, ↓onN_c, ↓onL_c, ↓Option.bind_some, ↓cond_true, ↓cond_false, decide_eq_true, decide_eq_false, Bool.not_true, Bool.not_false, Int.toNat_natCast, List.length_append, List.length_cons, List.length_nil, List.drop_zero, Nat.zero_add, Nat.add_zero, decT, decF, bneI_t, bneI_f, e1, hk, e2, p1, q2, q3, i1, p5, s1, s2, ↓s3, kworks_at]
      · rw [pr6_out h1] at p1
        obtain ⟨x9, o9, e9⟩ := pr6_s (ab + a)
        rw [e9] at q2
        simp (disch := first | assumption | omega) only [onI_c, onS_c, onB_c, onN_c, onL_c, Option.bind_some, Option.map_some, cond_true, cond_false, ↓onI_c, ↓onS_c, ↓onB_c, ↓onN_c, ↓onL_c, ↓Option.bind_some, ↓cond_true, ↓cond_false, decide_eq_true, decide_eq_false, Bool.not_true, Bool.not_false, Int.toNat_natCast, List.length_append, List.length_cons, List.length_nil, List.drop_zero, Nat.zero_add, Nat.add_zero, decT, decF, bneI_t, bneI_f, e1, hk, e2, p1, q2, q4, i1, p5, s1, s2, ↓s3, kworks_at]
    · obtain ⟨x9, o9, e9⟩ := pr6_s ab
      rw [e9] at p1
      simp (disch := first | assumption | omega) only [onI_c, onS_c, onB_c, onN_c, onL_c, Option.bind_some, Option.map_some, cond_true, cond_false, ↓onI_c, ↓onS_c, ↓onB_c, ↓onN_c, ↓onL_c, ↓Option.bind_some, ↓cond_true, ↓cond_false, decide_eq_true, decide_eq_false, Bool.not_true, Bool.not_false, Int.toNat_natCast, List.length_append, List.length_cons, List.length_nil, List.drop_zero, Nat.zero_add, Nat.add_zero, decT, decF, bneI_t, bneI_f, e1, hk, e2, p1, i1, p5, s1, s2, ↓s3, kworks_at]
  · have s7 : (bif !r then (Option.bind (F_law03_works []) fun r_9 =>
             onB r_9 fun b_11 ds_20 =>
             some [(.b b_11)]) else
            (bif (decide (a < z)) then (Option.bind (F_law03_works []) fun r_10 =>
              onB r_10 fun b_12 ds_21 =>
              some [(.b b_12)]) else
             (some [(.b false)]))) = some [Dat.b true] := by
      rcases s6 with rfl | ⟨rfl, s6⟩
      · simp only [onI_c, onS_c, onB_c, onN_c, onL_c, Option.bind_some, Option.map_some, cond_true, cond_false, ↓onI_c, ↓onS_c, ↓onB_c, ↓onN_c, ↓onL_c, ↓Option.bind_some, ↓cond_true, ↓cond_false, decide_eq_true, decide_eq_false, Bool.not_true, Bool.not_false, Int.toNat_natCast, List.length_append, List.length_cons, List.length_nil, List.drop_zero, Nat.zero_add, Nat.add_zero, decT, decF, bneI_t, bneI_f, kworks_at]
      · simp (disch := first | assumption | omega) only [onI_c, onS_c, onB_c, onN_c, onL_c, Option.bind_some, Option.map_some, cond_true, cond_false, ↓onI_c, ↓onS_c, ↓onB_c, ↓onN_c, ↓onL_c, ↓Option.bind_some, ↓cond_true, ↓cond_false, decide_eq_true, decide_eq_false, Bool.not_true, Bool.not_false, Int.toNat_natCast, List.length_append, List.length_cons, List.length_nil, List.drop_zero, Nat.zero_add, Nat.add_zero, decT, decF, bneI_t, bneI_f, kworks_at]
    by_cases hb1 : b < 9223372036854775807
    · have q2 := q2 hb1
      by_cases h1 : In6 ab
      · have q3 := q3 h1
        rw [pr6_in h1] at p1
        by_cases h2 : In6 (ab + a)
        · rw [pr6_in h2] at q2 q3
          simp (disch := first | assumption | omega) only [onI_c, onS_c, onB_c, onN_c, onL_c, Option.bind_some, Option.map_some, cond_true, cond_false, ↓onI_c, ↓onS_c, ↓onB_c, ↓onN_c, ↓onL_c, ↓Option.bind_some, ↓cond_true, ↓cond_false, decide_eq_true, decide_eq_false, Bool.not_true, Bool.not_false, Int.toNat_natCast, List.length_append, List.length_cons, List.length_nil, List.drop_zero, Nat.zero_add, Nat.add_zero, decT, decF, bneI_t, bneI_f, e1, hk, e2, p1, q2, q3, i1, p5, s1, s2, ↓s3, s5, ↓s7, kworks_at]
        · rw [pr6_out h2] at q2 q3
          simp (disch := first | assumption | omega) only [onI_c, onS_c, onB_c, onN_c, onL_c, Option.bind_some, Option.map_some, cond_true, cond_false, ↓onI_c, ↓onS_c, ↓onB_c, ↓onN_c, ↓onL_c, ↓Option.bind_some, ↓cond_true, ↓cond_false, decide_eq_true, decide_eq_false, Bool.not_true, Bool.not_false, Int.toNat_natCast, List.length_append, List.length_cons, List.length_nil, List.drop_zero, Nat.zero_add, Nat.add_zero, decT, decF, bneI_t, bneI_f, e1, hk, e2, p1, q2, q3, i1, p5, s1, s2, ↓s3, s5, ↓s7, kworks_at]
      · rw [pr6_out h1] at p1
        obtain ⟨x9, o9, e9⟩ := pr6_s (ab + a)
        rw [e9] at q2
        simp (disch := first | assumption | omega) only [onI_c, onS_c, onB_c, onN_c, onL_c, Option.bind_some, Option.map_some, cond_true, cond_false, ↓onI_c, ↓onS_c, ↓onB_c, ↓onN_c, ↓onL_c, ↓Option.bind_some, ↓cond_true, ↓cond_false, decide_eq_true, decide_eq_false, Bool.not_true, Bool.not_false, Int.toNat_natCast, List.length_append, List.length_cons, List.length_nil, List.drop_zero, Nat.zero_add, Nat.add_zero, decT, decF, bneI_t, bneI_f, e1, hk, e2, p1, q2, q4, i1, p5, s1, s2, ↓s3, s5, ↓s7, kworks_at]
    · obtain ⟨x9, o9, e9⟩ := pr6_s ab
      rw [e9] at p1
      simp (disch := first | assumption | omega) only [onI_c, onS_c, onB_c, onN_c, onL_c, Option.bind_some, Option.map_some, cond_true, cond_false, ↓onI_c, ↓onS_c, ↓onB_c, ↓onN_c, ↓onL_c, ↓Option.bind_some, ↓cond_true, ↓cond_false, decide_eq_true, decide_eq_false, Bool.not_true, Bool.not_false, Int.toNat_natCast, List.length_append, List.length_cons, List.length_nil, List.drop_zero, Nat.zero_add, Nat.add_zero, decT, decF, bneI_t, bneI_f, e1, hk, e2, p1, i1, p5, s1, s2, ↓s3, s5, ↓s7, kworks_at]
theorem lawP_CheckedSteps {dats : List Dat} (h : DatOk tau [.int .i64, .int .i64, .int .u32] dats) : F_law03_CheckedSteps dats = some [.b true] := by
  obtain ⟨a, r, rfl, ha, b, r', rfl, hb, c, r'', rfl, hc, rfl⟩ := h
  exact law_steps (wf_i64 ha) (wf_i64 hb) (wf_u32 hc)
end Go.Proofs.Ytkjlobjnboljbaa
