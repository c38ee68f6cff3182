/-
  Checked numbers: the laws for two numbers.
-/
import Derived.Test.YtkjlobjnboljbaaMChkchk
namespace Go.Proofs.Ytkjlobjnboljbaa
open Go.Ax Go.Lib
set_option linter.all false
set_option maxHeartbeats 8000000
set_option maxRecDepth 100000
attribute [local congr] cond_cong bind_cong onI_cong onB_cong onS_cong onN_cong onL_cong

theorem kis_same (x : Int) (o : Bool) : F_law03_is [.i x, .b o, .i x, .b o] = some [.b true] := by
  unfold F_law03_is
  cases o <;> simp only [onI_c, onS_c, onB_c, onN_c, onL_c, Option.bind_some, Option.map_some, cond_true, cond_false, ↓onI_c, ↓onS_c, ↓onB_c, ↓onN_c, ↓onL_c, ↓Option.bind_some, ↓cond_true, ↓cond_false, decide_eq_true, decide_eq_false, Bool.not_true, Bool.not_false, Int.toNat_natCast, List.length_append, List.length_cons, List.length_nil, List.drop_zero, Nat.zero_add, Nat.add_zero, decT, decF, bneI_t, bneI_f, beq_self_eq_true, eq_self]
theorem pr6_in {v : Int} (h : In6 v) : pr6 v = [.i v, .b true] := if_pos h
theorem pr6_out {v : Int} (h : ¬ In6 v) : pr6 v = [.i 0, .b false] := if_neg h
theorem pr6_s (v : Int) : ∃ x o, pr6 v = [.i x, .b o] := by unfold pr6; split <;> exact ⟨_, _, rfl⟩
theorem kfd_in {a b : Int} (ha : In6 a) (hb : In6 b) (b0 : b ≠ 0) (hm : ¬ (b = -1 ∧ a = -9223372036854775808)) : In6 (a.fdiv b) := by
  by_cases ht : a.tmod b = 0
  · rw [kfdiv_zero ht]; exact ktdiv_bd b0 ha.1 ha.2 hm
  · by_cases hs : (a < 0) ↔ (b < 0)
    · rw [kfdiv_same b0 hs]; exact ktdiv_bd b0 ha.1 ha.2 hm
    · rw [kfdiv_other b0 ht hs]; exact kfdiv_bd b0 ha.1 ha.2 ht
theorem kfmod_bd (a : Int) {b : Int} (b0 : b ≠ 0) : (0 < b → 0 ≤ a.fmod b ∧ a.fmod b < b) ∧ (b < 0 → b < a.fmod b ∧ a.fmod b ≤ 0) := by
  have hrl : a.natAbs % b.natAbs < b.natAbs := Nat.mod_lt _ (by omega)
  have e8 := ktm a b
  have hfz := fun q => kfmod_same (kfdiv_zero (a := a) (b := b) q)
  have hfs := fun q => kfmod_same (kfdiv_same (a := a) b0 q)
  have hfo := fun q q' => kfmod_other (kfdiv_other (a := a) b0 q q')
  generalize a.natAbs % b.natAbs = r at *
  by_cases ht : a.tmod b = 0
  · rw [hfz ht, ht]; omega
  · by_cases h : a < 0 ↔ b < 0
    · rw [hfs h]; split at e8 <;> omega
    · rw [hfo ht h]; split at e8 <;> omega
theorem law_two {a b : Int} (ha : In6 a) (hb : In6 b) : F_law03_CheckedTwo [.i a, .i b] = some [.b true] := by
  unfold F_law03_CheckedTwo
  have p1 := kadd_at ha hb
  have p2 := kradd_at ha hb
  have p3 := ksub_at ha hb
  have p4 := krsub_at ha hb
  have p5 := kmul_at ha hb
  have p6 := krmul_at ha hb
  obtain ⟨x1, o1, e1⟩ := pr6_s (a + b)
  obtain ⟨x2, o2, e2⟩ := pr6_s (a - b)
  obtain ⟨x3, o3, e3⟩ := pr6_s (a * b)
  rw [e1] at p1 p2
  rw [e2] at p3 p4
  rw [e3] at p5 p6
  by_cases b0 : b = 0
  · subst b0
    simp only [onI_c, onS_c, onB_c, onN_c, onL_c, Option.bind_some, Option.map_some, cond_true, cond_false, ↓onI_c, ↓onS_c, ↓onB_c, ↓onN_c, ↓onL_c, ↓Option.bind_some, ↓cond_true, ↓cond_false, decide_eq_true, decide_eq_false, Bool.not_true, Bool.not_false, Int.toNat_natCast, List.length_append, List.length_cons, List.length_nil, List.drop_zero, Nat.zero_add, Nat.add_zero, decT, decF, bneI_t, bneI_f, p1, p2, p3, p4, p5, p6, kdiv0_at, krdiv0_at, kmod0_at, krmod0_at, kis_same, kworks_at]
  · have p7 := kdiv_at ha hb b0
    have p8 := krdiv_at ha hb b0
    have p9 := kmod_at ha hb b0
    have p10 := krmod_at ha hb b0
    obtain ⟨x4, o4, e4⟩ := pr6_s (a.fdiv b)
    rw [e4] at p7 p8
    simp only [onI_c, onS_c, onB_c, onN_c, onL_c, Option.bind_some, Option.map_some, cond_true, cond_false, ↓onI_c, ↓onS_c, ↓onB_c, ↓onN_c, ↓onL_c, ↓Option.bind_some, ↓cond_true, ↓cond_false, decide_eq_true, decide_eq_false, Bool.not_true, Bool.not_false, Int.toNat_natCast, List.length_append, List.length_cons, List.length_nil, List.drop_zero, Nat.zero_add, Nat.add_zero, decT, decF, bneI_t, bneI_f, p1, p2, p3, p4, p5, p6, p7, p8, p9, p10, kis_same, kworks_at]
theorem law_back {a b : Int} (ha : In6 a) (hb : In6 b) : F_law03_CheckedBack [.i a, .i b] = some [.b true] := by
  have key : ∀ X Y : Option (List Dat), X = some [.b true] → True := fun _ _ _ => trivial
  unfold F_law03_CheckedBack
  have p1 := kadd_at ha hb
  have p2 := ksub_at ha hb
  have p3 := kmul_at ha hb
  have q1 : In6 (a + b) → F_checked_Sub [.i (a + b), .i b] = some [.i a, .b true] := fun h => by rw [ksub_at h hb, show a + b - b = a by omega, pr6_in ha]
  have q2 : In6 (a + b) → F_checked_Sub [.i (a + b), .i a] = some [.i b, .b true] := fun h => by rw [ksub_at h ha, show a + b - a = b by omega, pr6_in hb]
  have q3 : In6 (a - b) → F_checked_Add [.i (a - b), .i b] = some [.i a, .b true] := fun h => by rw [kadd_at h hb, show a - b + b = a by omega, pr6_in ha]
  have i1 := kis_same
  -- the second half
  by_cases b0 : b = 0
  · subst b0
    have z6 : In6 0 := by decide
    have p4 : F_checked_Mul [.i a, .i 0] = some [.i 0, .b true] := by rw [kmul_at ha hb, Int.mul_zero, pr6_in z6]
    have p5 : F_checked_Mul [.i 0, .i 0] = some [.i 0, .b true] := by rw [kmul_at z6 z6, Int.mul_zero, pr6_in z6]
    by_cases h1 : In6 (a + 0)
    · have q1 := q1 h1
      have q2 := q2 h1
      rw [pr6_in h1] at p1
      by_cases h2 : In6 (a - 0)
      · have q3 := q3 h2
        rw [pr6_in h2] at p2
        simp (disch := omega) only [onI_c, onS_c, onB_c, onN_c, onL_c, Option.bind_some, Option.map_some, cond_true, cond_false, ↓onI_c, ↓onS_c, ↓onB_c, ↓onN_c, ↓onL_c, ↓Option.bind_some, ↓cond_true, ↓cond_false, decide_eq_true, decide_eq_false, Bool.not_true, Bool.not_false, Int.toNat_natCast, List.length_append, List.length_cons, List.length_nil, List.drop_zero, Nat.zero_add, Nat.add_zero, decT, decF, bneI_t, bneI_f, p1, q1, q2, i1, p2, q3, p4, p5, kdiv0_at, kmod0_at, kworks_at, eq_self]
      · exact absurd (by simpa using ha) h2
    · exact absurd (by simpa using ha) h1
  · have mb := kfmod_bd a b0
    have p5 := kdiv_at ha hb b0
    have p6 := kmod_at ha hb b0
    have z6 : In6 0 := by decide
    have m6 : In6 (a.fmod b) := by unfold In6 at *; omega
    have ef : a.fdiv b * b + a.fmod b = a := by have := Int.mul_fdiv_add_fmod a b; rw [Int.mul_comm] at this; exact this
    have p7 : In6 (a.fdiv b) → F_checked_Mul [.i (a.fdiv b), .i b] = some (pr6 (a.fdiv b * b)) := fun h => kmul_at h hb
    have p8 : F_checked_Mul [.i 0, .i b] = some [.i 0, .b true] := by rw [kmul_at z6 hb, Int.zero_mul, pr6_in z6]
    have p9 : In6 (a.fdiv b * b) → F_checked_Add [.i (a.fdiv b * b), .i (a.fmod b)] = some [.i a, .b true] := fun h => by rw [kadd_at h m6, ef, pr6_in ha]
    have q4 : In6 (a * b) → F_checked_Div [.i (a * b), .i b] = some [.i a, .b true] := fun h => by rw [kdiv_at h hb b0, Int.mul_fdiv_cancel _ b0, pr6_in ha]
    have q5 : In6 (a * b) → F_checked_Mod [.i (a * b), .i b] = some [.i 0, .b true] := fun h => by rw [kmod_at h hb b0, Int.mul_fmod_left]
    clear key
    -- what the remainder is
    have r1 : (bif (decide (0 < b)) then (bif (decide (a.fmod b < 0)) then (some true) else
             (bif (decide (b ≤ a.fmod b)) then (some true) else
              (bif (decide (b < 0)) then (bif (decide (0 < a.fmod b)) then (some true) else
                (bif (decide (a.fmod b ≤ b)) then (some true) else
                 (some false))) else
               (some false)))) else
            (bif (decide (b < 0)) then (bif (decide (0 < a.fmod b)) then (some true) else
              (bif (decide (a.fmod b ≤ b)) then (some true) else
               (some false))) else
             (some false))) = some false := by
      rcases Int.lt_or_gt_of_ne b0 with hn | hn
      · have := mb.2 hn
        simp (disch := omega) only [onI_c, onS_c, onB_c, onN_c, onL_c, Option.bind_some, Option.map_some, cond_true, cond_false, ↓onI_c, ↓onS_c, ↓onB_c, ↓onN_c, ↓onL_c, ↓Option.bind_some, ↓cond_true, ↓cond_false, decide_eq_true, decide_eq_false, Bool.not_true, Bool.not_false, Int.toNat_natCast, List.length_append, List.length_cons, List.length_nil, List.drop_zero, Nat.zero_add, Nat.add_zero, decT, decF, bneI_t, bneI_f]
      · have := mb.1 hn
        simp (disch := omega) only [onI_c, onS_c, onB_c, onN_c, onL_c, Option.bind_some, Option.map_some, cond_true, cond_false, ↓onI_c, ↓onS_c, ↓onB_c, ↓onN_c, ↓onL_c, ↓Option.bind_some, ↓cond_true, ↓cond_false, decide_eq_true, decide_eq_false, Bool.not_true, Bool.not_false, Int.toNat_natCast, List.length_append, List.length_cons, List.length_nil, List.drop_zero, Nat.zero_add, Nat.add_zero, decT, decF, bneI_t, bneI_f]
    generalize a.fmod b = m at *
    generalize a.fdiv b = d at *
    generalize a * b = ab at *
    by_cases h4 : In6 d
    · have p7 := p7 h4
      rw [pr6_in h4] at p5
      by_cases h5 : In6 (d * b)
      · have p9 := p9 h5
        rw [pr6_in h5] at p7
        by_cases h1 : In6 (a + b) <;> by_cases h2 : In6 (a - b) <;> by_cases h3 : In6 ab <;>
          simp only [pr6_in, pr6_out, h1, h2, h3, not_false_eq_true, true_implies, false_implies] at p1 p2 p3 q1 q2 q3 q4 q5 <;>
          simp (disch := first | assumption | omega) only [onI_c, onS_c, onB_c, onN_c, onL_c, Option.bind_some, Option.map_some, cond_true, cond_false, ↓onI_c, ↓onS_c, ↓onB_c, ↓onN_c, ↓onL_c, ↓Option.bind_some, ↓cond_true, ↓cond_false, decide_eq_true, decide_eq_false, Bool.not_true, Bool.not_false, Int.toNat_natCast, List.length_append, List.length_cons, List.length_nil, List.drop_zero, Nat.zero_add, Nat.add_zero, decT, decF, bneI_t, bneI_f, p1, q1, q2, i1, p2, q3, p3, q4, q5, p5, p6, ↓r1, p7, p9, kworks_at]
      · rw [pr6_out h5] at p7
        by_cases h1 : In6 (a + b) <;> by_cases h2 : In6 (a - b) <;> by_cases h3 : In6 ab <;>
          simp only [pr6_in, pr6_out, h1, h2, h3, not_false_eq_true, true_implies, false_implies] at p1 p2 p3 q1 q2 q3 q4 q5 <;>
          simp (disch := first | assumption | omega) only [onI_c, onS_c, onB_c, onN_c, onL_c, Option.bind_some, Option.map_some, cond_true, cond_false, ↓onI_c, ↓onS_c, ↓onB_c, ↓onN_c, ↓onL_c, ↓Option.bind_some, ↓cond_true, ↓cond_false, decide_eq_true, decide_eq_false, Bool.not_true, Bool.not_false, Int.toNat_natCast, List.length_append, List.length_cons, List.length_nil, List.drop_zero, Nat.zero_add, Nat.add_zero, decT, decF, bneI_t, bneI_f, p1, q1, q2, i1, p2, q3, p3, q4, q5, p5, p6, ↓r1, p7, kworks_at]
    · rw [pr6_out h4] at p5
      by_cases h1 : In6 (a + b) <;> by_cases h2 : In6 (a - b) <;> by_cases h3 : In6 ab <;>
          simp only [pr6_in, pr6_out, h1, h2, h3, not_false_eq_true, true_implies, false_implies] at p1 p2 p3 q1 q2 q3 q4 q5 <;>
          simp (disch := first | assumption | omega) only [onI_c, onS_c, onB_c, onN_c, onL_c, Option.bind_some, Option.map_some, cond_true, cond_false, ↓onI_c, ↓onS_c, ↓onB_c, ↓onN_c, ↓onL_c, ↓Option.bind_some, ↓cond_true, ↓cond_false, decide_eq_true, decide_eq_false, Bool.not_true, Bool.not_false, Int.toNat_natCast, List.length_append, List.length_cons, List.length_nil, List.drop_zero, Nat.zero_add, Nat.add_zero, decT, decF, bneI_t, bneI_f, p1, q1, q2, i1, p2, q3, p3, q4, q5, p5, p6, ↓r1, p8, kworks_at]
theorem two_dat {dats : List Dat} (h : DatOk tau [.int .i64, .int .i64] dats) : ∃ a b, dats = [.i a, .i b] ∧ In6 a ∧ In6 b := by
  obtain ⟨a, r, rfl, ha, b, r', rfl, hb, rfl⟩ := h
  exact ⟨a, b, rfl, wf_i64 ha, wf_i64 hb⟩
theorem lawP_CheckedTwo {dats : List Dat} (h : DatOk tau [.int .i64, .int .i64] dats) : F_law03_CheckedTwo dats = some [.b true] := by
  obtain ⟨a, b, rfl, ha, hb⟩ := two_dat h
  exact law_two ha hb
theorem lawP_CheckedBack {dats : List Dat} (h : DatOk tau [.int .i64, .int .i64] dats) : F_law03_CheckedBack dats = some [.b true] := by
  obtain ⟨a, b, rfl, ha, hb⟩ := two_dat h
  exact law_back ha hb
end Go.Proofs.Ytkjlobjnboljbaa
