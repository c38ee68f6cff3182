/-
  UntilRefuses: the law.
-/
import Derived.Test.YtcohbcdhcmajiaaDoorMUntunt
import Derived.Test.YtcohbcdhcmajiaaDoorAxT
namespace Go.Proofs.YtcohbcdhcmajiaaDoor
open Go.Ax Go.Lib
set_option linter.all false
set_option maxHeartbeats 8000000
set_option maxRecDepth 100000
attribute [local congr] cond_cong bind_cong onI_cong onB_cong onS_cong onN_cong onL_cong
theorem refs_0 {what far a0 a1 a2 a3 a4 a5 a6 y m k w d s b : Int} (hr : Int.tmod what 10 = 0) (hf : 0 ≤ far ∧ far ≤ 4294967295)
    (hM : F__law22_Draft__Made [.i a0, .i a1, .i a2, .i a3, .i a4, .i a5, .i a6, .i 0] = some [.b true, .i y, .i m, .i k, .i w, .i d, .i s, .i b]) (hy : 1850 ≤ y ∧ y ≤ 2149) (hm : 1 ≤ m ∧ m ≤ 12) (hG : Good k w d) (hs : -9000000 ≤ s ∧ s ≤ 9000000) :
    F_law22_UntilRefuses [.i a0, .i a1, .i a2, .i a3, .i a4, .i a5, .i a6, .i what, .i far] = some [.b true] := by
  have f0 : i64 far = far := i64_in _ (by omega)
  have f1 : i64 (604800 + far) = 604800 + far := i64_in _ (by omega)
  have f2 : i64 (-604800 - far) = -604800 - far := i64_in _ (by omega)
  have f3 : i64 (3 + far) = 3 + far := i64_in _ (by omega)
  have f4 : i64 (-1 - far) = -1 - far := i64_in _ (by omega)
  have f5 : i64 (1 + far) = 1 + far := i64_in _ (by omega)
  have f6 : i64 (-10801 - far) = -10801 - far := i64_in _ (by omega)
  have hC1 : ∀ is y m k w d s b, F_until_Check [.b is, .i y, .i m, .i k, .i w, .i d, .i s, .i b, .i (1 + far)] = some [.i 2] := fun _ _ _ _ _ _ _ _ => check_least (.inr (by omega))
  have hC2 : ∀ is y m k w d s b, F_until_Check [.b is, .i y, .i m, .i k, .i w, .i d, .i s, .i b, .i (-10801 - far)] = some [.i 2] := fun _ _ _ _ _ _ _ _ => check_least (.inl (by omega))
  have hI1 : ∀ sv is y m k w d s b, F_until_Instant [.i (604800 + far), .i 0, .i sv, .s [], .s [], .b is, .i y, .i m, .i k, .i w, .i d, .i s, .i b, .n 0, .l []] = some [.i 0, .i 3] := fun _ _ _ _ _ _ _ _ _ => inst_off (.inr (by omega))
  have hI2 : ∀ sv is y m k w d s b, F_until_Instant [.i (-604800 - far), .i 0, .i sv, .s [], .s [], .b is, .i y, .i m, .i k, .i w, .i d, .i s, .i b, .n 0, .l []] = some [.i 0, .i 3] := fun _ _ _ _ _ _ _ _ _ => inst_off (.inl (by omega))
  have hI3 : ∀ is y m k w d s b, F_until_Instant [.i 0, .i 1, .i (604800 + far), .s [], .s [], .b is, .i y, .i m, .i k, .i w, .i d, .i s, .i b, .n 0, .l []] = some [.i 0, .i 3] := fun _ _ _ _ _ _ _ _ => inst_save (.inr (by omega))
  have hI4 : ∀ o sv is y m k w d s b, F_until_Instant [.i o, .i (3 + far), .i sv, .s [], .s [], .b is, .i y, .i m, .i k, .i w, .i d, .i s, .i b, .n 0, .l []] = some [.i 0, .i 2] := fun _ _ _ _ _ _ _ _ _ _ => inst_kind (.inr (by omega))
  have hI5 : ∀ o sv is y m k w d s b, F_until_Instant [.i o, .i (-1 - far), .i sv, .s [], .s [], .b is, .i y, .i m, .i k, .i w, .i d, .i s, .i b, .n 0, .l []] = some [.i 0, .i 2] := fun _ _ _ _ _ _ _ _ _ _ => inst_kind (.inl (by omega))
  have hw : F_law22_works [] = some [.b true] := rfl
  have t0 : decide ((0 : Int) = 0) = true := rfl
  have t2 : decide ((2 : Int) = 2) = true := rfl
  have t3 : decide ((3 : Int) = 3) = true := rfl
  have t4 : decide ((4 : Int) = 4) = true := rfl
  obtain ⟨r1, r2, r3⟩ := none_ref y m k w d s b
  have d0_0 : decide ((0 : Int) = 0) = true := rfl
  clear hG hs hy hm hf
  unfold F_law22_UntilRefuses
  simp only [hM, hr, d0_0, f0, f1, f2, f3, f4, f5, f6, hC1, hC2, hI1, hI2, hI3, hI4, hI5, hw, t0, t2, t3, t4, r1, r2, r3, decide_true, decide_false, onI_c, onB_c, onS_c, Option.bind_some, cond_true, cond_false, ↓onI_c, ↓onB_c, ↓onS_c, ↓Option.bind_some, ↓cond_true, ↓cond_false, Bool.not_true, Bool.not_false]
theorem refs_1 {what far a0 a1 a2 a3 a4 a5 a6 y m k w d s b : Int} (hr : Int.tmod what 10 = 1) (hf : 0 ≤ far ∧ far ≤ 4294967295)
    (hM : F__law22_Draft__Made [.i a0, .i a1, .i a2, .i a3, .i a4, .i a5, .i a6, .i 0] = some [.b true, .i y, .i m, .i k, .i w, .i d, .i s, .i b]) (hy : 1850 ≤ y ∧ y ≤ 2149) (hm : 1 ≤ m ∧ m ≤ 12) (hG : Good k w d) (hs : -9000000 ≤ s ∧ s ≤ 9000000) :
    F_law22_UntilRefuses [.i a0, .i a1, .i a2, .i a3, .i a4, .i a5, .i a6, .i what, .i far] = some [.b true] := by
  have f0 : i64 far = far := i64_in _ (by omega)
  have f1 : i64 (604800 + far) = 604800 + far := i64_in _ (by omega)
  have f2 : i64 (-604800 - far) = -604800 - far := i64_in _ (by omega)
  have f3 : i64 (3 + far) = 3 + far := i64_in _ (by omega)
  have f4 : i64 (-1 - far) = -1 - far := i64_in _ (by omega)
  have f5 : i64 (1 + far) = 1 + far := i64_in _ (by omega)
  have f6 : i64 (-10801 - far) = -10801 - far := i64_in _ (by omega)
  have hC1 : ∀ is y m k w d s b, F_until_Check [.b is, .i y, .i m, .i k, .i w, .i d, .i s, .i b, .i (1 + far)] = some [.i 2] := fun _ _ _ _ _ _ _ _ => check_least (.inr (by omega))
  have hC2 : ∀ is y m k w d s b, F_until_Check [.b is, .i y, .i m, .i k, .i w, .i d, .i s, .i b, .i (-10801 - far)] = some [.i 2] := fun _ _ _ _ _ _ _ _ => check_least (.inl (by omega))
  have hI1 : ∀ sv is y m k w d s b, F_until_Instant [.i (604800 + far), .i 0, .i sv, .s [], .s [], .b is, .i y, .i m, .i k, .i w, .i d, .i s, .i b, .n 0, .l []] = some [.i 0, .i 3] := fun _ _ _ _ _ _ _ _ _ => inst_off (.inr (by omega))
  have hI2 : ∀ sv is y m k w d s b, F_until_Instant [.i (-604800 - far), .i 0, .i sv, .s [], .s [], .b is, .i y, .i m, .i k, .i w, .i d, .i s, .i b, .n 0, .l []] = some [.i 0, .i 3] := fun _ _ _ _ _ _ _ _ _ => inst_off (.inl (by omega))
  have hI3 : ∀ is y m k w d s b, F_until_Instant [.i 0, .i 1, .i (604800 + far), .s [], .s [], .b is, .i y, .i m, .i k, .i w, .i d, .i s, .i b, .n 0, .l []] = some [.i 0, .i 3] := fun _ _ _ _ _ _ _ _ => inst_save (.inr (by omega))
  have hI4 : ∀ o sv is y m k w d s b, F_until_Instant [.i o, .i (3 + far), .i sv, .s [], .s [], .b is, .i y, .i m, .i k, .i w, .i d, .i s, .i b, .n 0, .l []] = some [.i 0, .i 2] := fun _ _ _ _ _ _ _ _ _ _ => inst_kind (.inr (by omega))
  have hI5 : ∀ o sv is y m k w d s b, F_until_Instant [.i o, .i (-1 - far), .i sv, .s [], .s [], .b is, .i y, .i m, .i k, .i w, .i d, .i s, .i b, .n 0, .l []] = some [.i 0, .i 2] := fun _ _ _ _ _ _ _ _ _ _ => inst_kind (.inl (by omega))
  have hw : F_law22_works [] = some [.b true] := rfl
  have t0 : decide ((0 : Int) = 0) = true := rfl
  have t2 : decide ((2 : Int) = 2) = true := rfl
  have t3 : decide ((3 : Int) = 3) = true := rfl
  have t4 : decide ((4 : Int) = 4) = true := rfl
  have g1 : i64 (1849 - far) = 1849 - far := i64_in _ (by omega)
  obtain ⟨v, e, hO⟩ := on_year (y := 1849 - far) hm hG
  obtain ⟨r1, r2, r3⟩ := range_ref (s := s) (b := b) hO (by omega) (.inr (.inl (.inl (by omega))))
  have d1_0 : decide ((1 : Int) = 0) = false := rfl
  have d1_1 : decide ((1 : Int) = 1) = true := rfl
  clear hG hs hy hm hf
  unfold F_law22_UntilRefuses
  simp only [hM, hr, d1_0, d1_1, f0, f1, f2, f3, f4, f5, f6, hC1, hC2, hI1, hI2, hI3, hI4, hI5, hw, t0, t2, t3, t4, g1, r1, r2, r3, decide_true, decide_false, onI_c, onB_c, onS_c, Option.bind_some, cond_true, cond_false, ↓onI_c, ↓onB_c, ↓onS_c, ↓Option.bind_some, ↓cond_true, ↓cond_false, Bool.not_true, Bool.not_false]
theorem refs_2 {what far a0 a1 a2 a3 a4 a5 a6 y m k w d s b : Int} (hr : Int.tmod what 10 = 2) (hf : 0 ≤ far ∧ far ≤ 4294967295)
    (hM : F__law22_Draft__Made [.i a0, .i a1, .i a2, .i a3, .i a4, .i a5, .i a6, .i 0] = some [.b true, .i y, .i m, .i k, .i w, .i d, .i s, .i b]) (hy : 1850 ≤ y ∧ y ≤ 2149) (hm : 1 ≤ m ∧ m ≤ 12) (hG : Good k w d) (hs : -9000000 ≤ s ∧ s ≤ 9000000) :
    F_law22_UntilRefuses [.i a0, .i a1, .i a2, .i a3, .i a4, .i a5, .i a6, .i what, .i far] = some [.b true] := by
  have f0 : i64 far = far := i64_in _ (by omega)
  have f1 : i64 (604800 + far) = 604800 + far := i64_in _ (by omega)
  have f2 : i64 (-604800 - far) = -604800 - far := i64_in _ (by omega)
  have f3 : i64 (3 + far) = 3 + far := i64_in _ (by omega)
  have f4 : i64 (-1 - far) = -1 - far := i64_in _ (by omega)
  have f5 : i64 (1 + far) = 1 + far := i64_in _ (by omega)
  have f6 : i64 (-10801 - far) = -10801 - far := i64_in _ (by omega)
  have hC1 : ∀ is y m k w d s b, F_until_Check [.b is, .i y, .i m, .i k, .i w, .i d, .i s, .i b, .i (1 + far)] = some [.i 2] := fun _ _ _ _ _ _ _ _ => check_least (.inr (by omega))
  have hC2 : ∀ is y m k w d s b, F_until_Check [.b is, .i y, .i m, .i k, .i w, .i d, .i s, .i b, .i (-10801 - far)] = some [.i 2] := fun _ _ _ _ _ _ _ _ => check_least (.inl (by omega))
  have hI1 : ∀ sv is y m k w d s b, F_until_Instant [.i (604800 + far), .i 0, .i sv, .s [], .s [], .b is, .i y, .i m, .i k, .i w, .i d, .i s, .i b, .n 0, .l []] = some [.i 0, .i 3] := fun _ _ _ _ _ _ _ _ _ => inst_off (.inr (by omega))
  have hI2 : ∀ sv is y m k w d s b, F_until_Instant [.i (-604800 - far), .i 0, .i sv, .s [], .s [], .b is, .i y, .i m, .i k, .i w, .i d, .i s, .i b, .n 0, .l []] = some [.i 0, .i 3] := fun _ _ _ _ _ _ _ _ _ => inst_off (.inl (by omega))
  have hI3 : ∀ is y m k w d s b, F_until_Instant [.i 0, .i 1, .i (604800 + far), .s [], .s [], .b is, .i y, .i m, .i k, .i w, .i d, .i s, .i b, .n 0, .l []] = some [.i 0, .i 3] := fun _ _ _ _ _ _ _ _ => inst_save (.inr (by omega))
  have hI4 : ∀ o sv is y m k w d s b, F_until_Instant [.i o, .i (3 + far), .i sv, .s [], .s [], .b is, .i y, .i m, .i k, .i w, .i d, .i s, .i b, .n 0, .l []] = some [.i 0, .i 2] := fun _ _ _ _ _ _ _ _ _ _ => inst_kind (.inr (by omega))
  have hI5 : ∀ o sv is y m k w d s b, F_until_Instant [.i o, .i (-1 - far), .i sv, .s [], .s [], .b is, .i y, .i m, .i k, .i w, .i d, .i s, .i b, .n 0, .l []] = some [.i 0, .i 2] := fun _ _ _ _ _ _ _ _ _ _ => inst_kind (.inl (by omega))
  have hw : F_law22_works [] = some [.b true] := rfl
  have t0 : decide ((0 : Int) = 0) = true := rfl
  have t2 : decide ((2 : Int) = 2) = true := rfl
  have t3 : decide ((3 : Int) = 3) = true := rfl
  have t4 : decide ((4 : Int) = 4) = true := rfl
  have g1 : i64 (2150 + far) = 2150 + far := i64_in _ (by omega)
  obtain ⟨v, e, hO⟩ := on_year (y := 2150 + far) hm hG
  obtain ⟨r1, r2, r3⟩ := range_ref (s := s) (b := b) hO (by omega) (.inr (.inl (.inr (by omega))))
  have d2_0 : decide ((2 : Int) = 0) = false := rfl
  have d2_1 : decide ((2 : Int) = 1) = false := rfl
  have d2_2 : decide ((2 : Int) = 2) = true := rfl
  clear hG hs hy hm hf
  unfold F_law22_UntilRefuses
  simp only [hM, hr, d2_0, d2_1, d2_2, f0, f1, f2, f3, f4, f5, f6, hC1, hC2, hI1, hI2, hI3, hI4, hI5, hw, t0, t2, t3, t4, g1, r1, r2, r3, decide_true, decide_false, onI_c, onB_c, onS_c, Option.bind_some, cond_true, cond_false, ↓onI_c, ↓onB_c, ↓onS_c, ↓Option.bind_some, ↓cond_true, ↓cond_false, Bool.not_true, Bool.not_false]
theorem refs_5 {what far a0 a1 a2 a3 a4 a5 a6 y m k w d s b : Int} (hr : Int.tmod what 10 = 5) (hf : 0 ≤ far ∧ far ≤ 4294967295)
    (hM : F__law22_Draft__Made [.i a0, .i a1, .i a2, .i a3, .i a4, .i a5, .i a6, .i 0] = some [.b true, .i y, .i m, .i k, .i w, .i d, .i s, .i b]) (hy : 1850 ≤ y ∧ y ≤ 2149) (hm : 1 ≤ m ∧ m ≤ 12) (hG : Good k w d) (hs : -9000000 ≤ s ∧ s ≤ 9000000) :
    F_law22_UntilRefuses [.i a0, .i a1, .i a2, .i a3, .i a4, .i a5, .i a6, .i what, .i far] = some [.b true] := by
  have f0 : i64 far = far := i64_in _ (by omega)
  have f1 : i64 (604800 + far) = 604800 + far := i64_in _ (by omega)
  have f2 : i64 (-604800 - far) = -604800 - far := i64_in _ (by omega)
  have f3 : i64 (3 + far) = 3 + far := i64_in _ (by omega)
  have f4 : i64 (-1 - far) = -1 - far := i64_in _ (by omega)
  have f5 : i64 (1 + far) = 1 + far := i64_in _ (by omega)
  have f6 : i64 (-10801 - far) = -10801 - far := i64_in _ (by omega)
  have hC1 : ∀ is y m k w d s b, F_until_Check [.b is, .i y, .i m, .i k, .i w, .i d, .i s, .i b, .i (1 + far)] = some [.i 2] := fun _ _ _ _ _ _ _ _ => check_least (.inr (by omega))
  have hC2 : ∀ is y m k w d s b, F_until_Check [.b is, .i y, .i m, .i k, .i w, .i d, .i s, .i b, .i (-10801 - far)] = some [.i 2] := fun _ _ _ _ _ _ _ _ => check_least (.inl (by omega))
  have hI1 : ∀ sv is y m k w d s b, F_until_Instant [.i (604800 + far), .i 0, .i sv, .s [], .s [], .b is, .i y, .i m, .i k, .i w, .i d, .i s, .i b, .n 0, .l []] = some [.i 0, .i 3] := fun _ _ _ _ _ _ _ _ _ => inst_off (.inr (by omega))
  have hI2 : ∀ sv is y m k w d s b, F_until_Instant [.i (-604800 - far), .i 0, .i sv, .s [], .s [], .b is, .i y, .i m, .i k, .i w, .i d, .i s, .i b, .n 0, .l []] = some [.i 0, .i 3] := fun _ _ _ _ _ _ _ _ _ => inst_off (.inl (by omega))
  have hI3 : ∀ is y m k w d s b, F_until_Instant [.i 0, .i 1, .i (604800 + far), .s [], .s [], .b is, .i y, .i m, .i k, .i w, .i d, .i s, .i b, .n 0, .l []] = some [.i 0, .i 3] := fun _ _ _ _ _ _ _ _ => inst_save (.inr (by omega))
  have hI4 : ∀ o sv is y m k w d s b, F_until_Instant [.i o, .i (3 + far), .i sv, .s [], .s [], .b is, .i y, .i m, .i k, .i w, .i d, .i s, .i b, .n 0, .l []] = some [.i 0, .i 2] := fun _ _ _ _ _ _ _ _ _ _ => inst_kind (.inr (by omega))
  have hI5 : ∀ o sv is y m k w d s b, F_until_Instant [.i o, .i (-1 - far), .i sv, .s [], .s [], .b is, .i y, .i m, .i k, .i w, .i d, .i s, .i b, .n 0, .l []] = some [.i 0, .i 2] := fun _ _ _ _ _ _ _ _ _ _ => inst_kind (.inl (by omega))
  have hw : F_law22_works [] = some [.b true] := rfl
  have t0 : decide ((0 : Int) = 0) = true := rfl
  have t2 : decide ((2 : Int) = 2) = true := rfl
  have t3 : decide ((3 : Int) = 3) = true := rfl
  have t4 : decide ((4 : Int) = 4) = true := rfl
  have g1 : i64 (5 + far) = 5 + far := i64_in _ (by omega)
  have hO := on_bad (y := y) (m := m) (k := 5 + far) (w := w) (d := d) (by omega) hm (.inr (.inl (by omega)))
  obtain ⟨r1, r2, r3⟩ := range_ref (s := s) (b := b) hO (by omega) (.inl (by decide))
  have d5_0 : decide ((5 : Int) = 0) = false := rfl
  have d5_1 : decide ((5 : Int) = 1) = false := rfl
  have d5_2 : decide ((5 : Int) = 2) = false := rfl
  have d5_3 : decide ((5 : Int) = 3) = false := rfl
  have d5_4 : decide ((5 : Int) = 4) = false := rfl
  have d5_5 : decide ((5 : Int) = 5) = true := rfl
  clear hG hs hy hm hf
  unfold F_law22_UntilRefuses
  simp only [hM, hr, d5_0, d5_1, d5_2, d5_3, d5_4, d5_5, f0, f1, f2, f3, f4, f5, f6, hC1, hC2, hI1, hI2, hI3, hI4, hI5, hw, t0, t2, t3, t4, g1, r1, r2, r3, decide_true, decide_false, onI_c, onB_c, onS_c, Option.bind_some, cond_true, cond_false, ↓onI_c, ↓onB_c, ↓onS_c, ↓Option.bind_some, ↓cond_true, ↓cond_false, Bool.not_true, Bool.not_false]
theorem refs_7 {what far a0 a1 a2 a3 a4 a5 a6 y m k w d s b : Int} (hr : Int.tmod what 10 = 7) (hf : 0 ≤ far ∧ far ≤ 4294967295)
    (hM : F__law22_Draft__Made [.i a0, .i a1, .i a2, .i a3, .i a4, .i a5, .i a6, .i 0] = some [.b true, .i y, .i m, .i k, .i w, .i d, .i s, .i b]) (hy : 1850 ≤ y ∧ y ≤ 2149) (hm : 1 ≤ m ∧ m ≤ 12) (hG : Good k w d) (hs : -9000000 ≤ s ∧ s ≤ 9000000) :
    F_law22_UntilRefuses [.i a0, .i a1, .i a2, .i a3, .i a4, .i a5, .i a6, .i what, .i far] = some [.b true] := by
  have f0 : i64 far = far := i64_in _ (by omega)
  have f1 : i64 (604800 + far) = 604800 + far := i64_in _ (by omega)
  have f2 : i64 (-604800 - far) = -604800 - far := i64_in _ (by omega)
  have f3 : i64 (3 + far) = 3 + far := i64_in _ (by omega)
  have f4 : i64 (-1 - far) = -1 - far := i64_in _ (by omega)
  have f5 : i64 (1 + far) = 1 + far := i64_in _ (by omega)
  have f6 : i64 (-10801 - far) = -10801 - far := i64_in _ (by omega)
  have hC1 : ∀ is y m k w d s b, F_until_Check [.b is, .i y, .i m, .i k, .i w, .i d, .i s, .i b, .i (1 + far)] = some [.i 2] := fun _ _ _ _ _ _ _ _ => check_least (.inr (by omega))
  have hC2 : ∀ is y m k w d s b, F_until_Check [.b is, .i y, .i m, .i k, .i w, .i d, .i s, .i b, .i (-10801 - far)] = some [.i 2] := fun _ _ _ _ _ _ _ _ => check_least (.inl (by omega))
  have hI1 : ∀ sv is y m k w d s b, F_until_Instant [.i (604800 + far), .i 0, .i sv, .s [], .s [], .b is, .i y, .i m, .i k, .i w, .i d, .i s, .i b, .n 0, .l []] = some [.i 0, .i 3] := fun _ _ _ _ _ _ _ _ _ => inst_off (.inr (by omega))
  have hI2 : ∀ sv is y m k w d s b, F_until_Instant [.i (-604800 - far), .i 0, .i sv, .s [], .s [], .b is, .i y, .i m, .i k, .i w, .i d, .i s, .i b, .n 0, .l []] = some [.i 0, .i 3] := fun _ _ _ _ _ _ _ _ _ => inst_off (.inl (by omega))
  have hI3 : ∀ is y m k w d s b, F_until_Instant [.i 0, .i 1, .i (604800 + far), .s [], .s [], .b is, .i y, .i m, .i k, .i w, .i d, .i s, .i b, .n 0, .l []] = some [.i 0, .i 3] := fun _ _ _ _ _ _ _ _ => inst_save (.inr (by omega))
  have hI4 : ∀ o sv is y m k w d s b, F_until_Instant [.i o, .i (3 + far), .i sv, .s [], .s [], .b is, .i y, .i m, .i k, .i w, .i d, .i s, .i b, .n 0, .l []] = some [.i 0, .i 2] := fun _ _ _ _ _ _ _ _ _ _ => inst_kind (.inr (by omega))
  have hI5 : ∀ o sv is y m k w d s b, F_until_Instant [.i o, .i (-1 - far), .i sv, .s [], .s [], .b is, .i y, .i m, .i k, .i w, .i d, .i s, .i b, .n 0, .l []] = some [.i 0, .i 2] := fun _ _ _ _ _ _ _ _ _ _ => inst_kind (.inl (by omega))
  have hw : F_law22_works [] = some [.b true] := rfl
  have t0 : decide ((0 : Int) = 0) = true := rfl
  have t2 : decide ((2 : Int) = 2) = true := rfl
  have t3 : decide ((3 : Int) = 3) = true := rfl
  have t4 : decide ((4 : Int) = 4) = true := rfl
  have g1 : i64 (-86401 - far) = -86401 - far := i64_in _ (by omega)
  obtain ⟨v, e, hO⟩ := on_any (y := y) (by omega) hm hG
  obtain ⟨r1, r2, r3⟩ := range_ref (s := -86401 - far) (b := b) hO (by omega) (.inr (.inr (.inl (.inl (by omega)))))
  have d7_0 : decide ((7 : Int) = 0) = false := rfl
  have d7_1 : decide ((7 : Int) = 1) = false := rfl
  have d7_2 : decide ((7 : Int) = 2) = false := rfl
  have d7_3 : decide ((7 : Int) = 3) = false := rfl
  have d7_4 : decide ((7 : Int) = 4) = false := rfl
  have d7_5 : decide ((7 : Int) = 5) = false := rfl
  have d7_6 : decide ((7 : Int) = 6) = false := rfl
  have d7_7 : decide ((7 : Int) = 7) = true := rfl
  clear hG hs hy hm hf
  unfold F_law22_UntilRefuses
  simp only [hM, hr, d7_0, d7_1, d7_2, d7_3, d7_4, d7_5, d7_6, d7_7, f0, f1, f2, f3, f4, f5, f6, hC1, hC2, hI1, hI2, hI3, hI4, hI5, hw, t0, t2, t3, t4, g1, r1, r2, r3, decide_true, decide_false, onI_c, onB_c, onS_c, Option.bind_some, cond_true, cond_false, ↓onI_c, ↓onB_c, ↓onS_c, ↓Option.bind_some, ↓cond_true, ↓cond_false, Bool.not_true, Bool.not_false]
theorem refs_8 {what far a0 a1 a2 a3 a4 a5 a6 y m k w d s b : Int} (hr : Int.tmod what 10 = 8) (hf : 0 ≤ far ∧ far ≤ 4294967295)
    (hM : F__law22_Draft__Made [.i a0, .i a1, .i a2, .i a3, .i a4, .i a5, .i a6, .i 0] = some [.b true, .i y, .i m, .i k, .i w, .i d, .i s, .i b]) (hy : 1850 ≤ y ∧ y ≤ 2149) (hm : 1 ≤ m ∧ m ≤ 12) (hG : Good k w d) (hs : -9000000 ≤ s ∧ s ≤ 9000000) :
    F_law22_UntilRefuses [.i a0, .i a1, .i a2, .i a3, .i a4, .i a5, .i a6, .i what, .i far] = some [.b true] := by
  have f0 : i64 far = far := i64_in _ (by omega)
  have f1 : i64 (604800 + far) = 604800 + far := i64_in _ (by omega)
  have f2 : i64 (-604800 - far) = -604800 - far := i64_in _ (by omega)
  have f3 : i64 (3 + far) = 3 + far := i64_in _ (by omega)
  have f4 : i64 (-1 - far) = -1 - far := i64_in _ (by omega)
  have f5 : i64 (1 + far) = 1 + far := i64_in _ (by omega)
  have f6 : i64 (-10801 - far) = -10801 - far := i64_in _ (by omega)
  have hC1 : ∀ is y m k w d s b, F_until_Check [.b is, .i y, .i m, .i k, .i w, .i d, .i s, .i b, .i (1 + far)] = some [.i 2] := fun _ _ _ _ _ _ _ _ => check_least (.inr (by omega))
  have hC2 : ∀ is y m k w d s b, F_until_Check [.b is, .i y, .i m, .i k, .i w, .i d, .i s, .i b, .i (-10801 - far)] = some [.i 2] := fun _ _ _ _ _ _ _ _ => check_least (.inl (by omega))
  have hI1 : ∀ sv is y m k w d s b, F_until_Instant [.i (604800 + far), .i 0, .i sv, .s [], .s [], .b is, .i y, .i m, .i k, .i w, .i d, .i s, .i b, .n 0, .l []] = some [.i 0, .i 3] := fun _ _ _ _ _ _ _ _ _ => inst_off (.inr (by omega))
  have hI2 : ∀ sv is y m k w d s b, F_until_Instant [.i (-604800 - far), .i 0, .i sv, .s [], .s [], .b is, .i y, .i m, .i k, .i w, .i d, .i s, .i b, .n 0, .l []] = some [.i 0, .i 3] := fun _ _ _ _ _ _ _ _ _ => inst_off (.inl (by omega))
  have hI3 : ∀ is y m k w d s b, F_until_Instant [.i 0, .i 1, .i (604800 + far), .s [], .s [], .b is, .i y, .i m, .i k, .i w, .i d, .i s, .i b, .n 0, .l []] = some [.i 0, .i 3] := fun _ _ _ _ _ _ _ _ => inst_save (.inr (by omega))
  have hI4 : ∀ o sv is y m k w d s b, F_until_Instant [.i o, .i (3 + far), .i sv, .s [], .s [], .b is, .i y, .i m, .i k, .i w, .i d, .i s, .i b, .n 0, .l []] = some [.i 0, .i 2] := fun _ _ _ _ _ _ _ _ _ _ => inst_kind (.inr (by omega))
  have hI5 : ∀ o sv is y m k w d s b, F_until_Instant [.i o, .i (-1 - far), .i sv, .s [], .s [], .b is, .i y, .i m, .i k, .i w, .i d, .i s, .i b, .n 0, .l []] = some [.i 0, .i 2] := fun _ _ _ _ _ _ _ _ _ _ => inst_kind (.inl (by omega))
  have hw : F_law22_works [] = some [.b true] := rfl
  have t0 : decide ((0 : Int) = 0) = true := rfl
  have t2 : decide ((2 : Int) = 2) = true := rfl
  have t3 : decide ((3 : Int) = 3) = true := rfl
  have t4 : decide ((4 : Int) = 4) = true := rfl
  have g1 : i64 (172801 + far) = 172801 + far := i64_in _ (by omega)
  obtain ⟨v, e, hO⟩ := on_any (y := y) (by omega) hm hG
  obtain ⟨r1, r2, r3⟩ := range_ref (s := 172801 + far) (b := b) hO (by omega) (.inr (.inr (.inl (.inr (by omega)))))
  have d8_0 : decide ((8 : Int) = 0) = false := rfl
  have d8_1 : decide ((8 : Int) = 1) = false := rfl
  have d8_2 : decide ((8 : Int) = 2) = false := rfl
  have d8_3 : decide ((8 : Int) = 3) = false := rfl
  have d8_4 : decide ((8 : Int) = 4) = false := rfl
  have d8_5 : decide ((8 : Int) = 5) = false := rfl
  have d8_6 : decide ((8 : Int) = 6) = false := rfl
  have d8_7 : decide ((8 : Int) = 7) = false := rfl
  have d8_8 : decide ((8 : Int) = 8) = true := rfl
  clear hG hs hy hm hf
  unfold F_law22_UntilRefuses
  simp only [hM, hr, d8_0, d8_1, d8_2, d8_3, d8_4, d8_5, d8_6, d8_7, d8_8, f0, f1, f2, f3, f4, f5, f6, hC1, hC2, hI1, hI2, hI3, hI4, hI5, hw, t0, t2, t3, t4, g1, r1, r2, r3, decide_true, decide_false, onI_c, onB_c, onS_c, Option.bind_some, cond_true, cond_false, ↓onI_c, ↓onB_c, ↓onS_c, ↓Option.bind_some, ↓cond_true, ↓cond_false, Bool.not_true, Bool.not_false]
theorem refs_9 {what far a0 a1 a2 a3 a4 a5 a6 y m k w d s b : Int} (hr : Int.tmod what 10 = 9) (hf : 0 ≤ far ∧ far ≤ 4294967295)
    (hM : F__law22_Draft__Made [.i a0, .i a1, .i a2, .i a3, .i a4, .i a5, .i a6, .i 0] = some [.b true, .i y, .i m, .i k, .i w, .i d, .i s, .i b]) (hy : 1850 ≤ y ∧ y ≤ 2149) (hm : 1 ≤ m ∧ m ≤ 12) (hG : Good k w d) (hs : -9000000 ≤ s ∧ s ≤ 9000000) :
    F_law22_UntilRefuses [.i a0, .i a1, .i a2, .i a3, .i a4, .i a5, .i a6, .i what, .i far] = some [.b true] := by
  have f0 : i64 far = far := i64_in _ (by omega)
  have f1 : i64 (604800 + far) = 604800 + far := i64_in _ (by omega)
  have f2 : i64 (-604800 - far) = -604800 - far := i64_in _ (by omega)
  have f3 : i64 (3 + far) = 3 + far := i64_in _ (by omega)
  have f4 : i64 (-1 - far) = -1 - far := i64_in _ (by omega)
  have f5 : i64 (1 + far) = 1 + far := i64_in _ (by omega)
  have f6 : i64 (-10801 - far) = -10801 - far := i64_in _ (by omega)
  have hC1 : ∀ is y m k w d s b, F_until_Check [.b is, .i y, .i m, .i k, .i w, .i d, .i s, .i b, .i (1 + far)] = some [.i 2] := fun _ _ _ _ _ _ _ _ => check_least (.inr (by omega))
  have hC2 : ∀ is y m k w d s b, F_until_Check [.b is, .i y, .i m, .i k, .i w, .i d, .i s, .i b, .i (-10801 - far)] = some [.i 2] := fun _ _ _ _ _ _ _ _ => check_least (.inl (by omega))
  have hI1 : ∀ sv is y m k w d s b, F_until_Instant [.i (604800 + far), .i 0, .i sv, .s [], .s [], .b is, .i y, .i m, .i k, .i w, .i d, .i s, .i b, .n 0, .l []] = some [.i 0, .i 3] := fun _ _ _ _ _ _ _ _ _ => inst_off (.inr (by omega))
  have hI2 : ∀ sv is y m k w d s b, F_until_Instant [.i (-604800 - far), .i 0, .i sv, .s [], .s [], .b is, .i y, .i m, .i k, .i w, .i d, .i s, .i b, .n 0, .l []] = some [.i 0, .i 3] := fun _ _ _ _ _ _ _ _ _ => inst_off (.inl (by omega))
  have hI3 : ∀ is y m k w d s b, F_until_Instant [.i 0, .i 1, .i (604800 + far), .s [], .s [], .b is, .i y, .i m, .i k, .i w, .i d, .i s, .i b, .n 0, .l []] = some [.i 0, .i 3] := fun _ _ _ _ _ _ _ _ => inst_save (.inr (by omega))
  have hI4 : ∀ o sv is y m k w d s b, F_until_Instant [.i o, .i (3 + far), .i sv, .s [], .s [], .b is, .i y, .i m, .i k, .i w, .i d, .i s, .i b, .n 0, .l []] = some [.i 0, .i 2] := fun _ _ _ _ _ _ _ _ _ _ => inst_kind (.inr (by omega))
  have hI5 : ∀ o sv is y m k w d s b, F_until_Instant [.i o, .i (-1 - far), .i sv, .s [], .s [], .b is, .i y, .i m, .i k, .i w, .i d, .i s, .i b, .n 0, .l []] = some [.i 0, .i 2] := fun _ _ _ _ _ _ _ _ _ _ => inst_kind (.inl (by omega))
  have hw : F_law22_works [] = some [.b true] := rfl
  have t0 : decide ((0 : Int) = 0) = true := rfl
  have t2 : decide ((2 : Int) = 2) = true := rfl
  have t3 : decide ((3 : Int) = 3) = true := rfl
  have t4 : decide ((4 : Int) = 4) = true := rfl
  have hO := on_range (y := 0) (m := 0) (k := 0) (w := 0) (d := 0) (days_month (by omega) (.inl (by omega)))
  obtain ⟨r1, r2, r3⟩ := range_ref (s := 0) (b := 0) hO (by omega) (.inl (by decide))
  have d9_0 : decide ((9 : Int) = 0) = false := rfl
  have d9_1 : decide ((9 : Int) = 1) = false := rfl
  have d9_2 : decide ((9 : Int) = 2) = false := rfl
  have d9_3 : decide ((9 : Int) = 3) = false := rfl
  have d9_4 : decide ((9 : Int) = 4) = false := rfl
  have d9_5 : decide ((9 : Int) = 5) = false := rfl
  have d9_6 : decide ((9 : Int) = 6) = false := rfl
  have d9_7 : decide ((9 : Int) = 7) = false := rfl
  have d9_8 : decide ((9 : Int) = 8) = false := rfl
  clear hG hs hy hm hf
  unfold F_law22_UntilRefuses
  simp only [hM, hr, d9_0, d9_1, d9_2, d9_3, d9_4, d9_5, d9_6, d9_7, d9_8, f0, f1, f2, f3, f4, f5, f6, hC1, hC2, hI1, hI2, hI3, hI4, hI5, hw, t0, t2, t3, t4, r1, r2, r3, decide_true, decide_false, onI_c, onB_c, onS_c, Option.bind_some, cond_true, cond_false, ↓onI_c, ↓onB_c, ↓onS_c, ↓Option.bind_some, ↓cond_true, ↓cond_false, Bool.not_true, Bool.not_false]
theorem refs_3_0 {what far a0 a1 a2 a3 a4 a5 a6 y m k w d s b : Int} (hr : Int.tmod what 10 = 3) (hf : 0 ≤ far ∧ far ≤ 4294967295)
    (hM : F__law22_Draft__Made [.i a0, .i a1, .i a2, .i a3, .i a4, .i a5, .i a6, .i 0] = some [.b true, .i y, .i m, .i k, .i w, .i d, .i s, .i b]) (hy : 1850 ≤ y ∧ y ≤ 2149) (hm : 1 ≤ m ∧ m ≤ 12) (hG : Good k w d) (hs : -9000000 ≤ s ∧ s ≤ 9000000) (hp : Int.tmod far 2 = 0) :
    F_law22_UntilRefuses [.i a0, .i a1, .i a2, .i a3, .i a4, .i a5, .i a6, .i what, .i far] = some [.b true] := by
  have f0 : i64 far = far := i64_in _ (by omega)
  have f1 : i64 (604800 + far) = 604800 + far := i64_in _ (by omega)
  have f2 : i64 (-604800 - far) = -604800 - far := i64_in _ (by omega)
  have f3 : i64 (3 + far) = 3 + far := i64_in _ (by omega)
  have f4 : i64 (-1 - far) = -1 - far := i64_in _ (by omega)
  have f5 : i64 (1 + far) = 1 + far := i64_in _ (by omega)
  have f6 : i64 (-10801 - far) = -10801 - far := i64_in _ (by omega)
  have hC1 : ∀ is y m k w d s b, F_until_Check [.b is, .i y, .i m, .i k, .i w, .i d, .i s, .i b, .i (1 + far)] = some [.i 2] := fun _ _ _ _ _ _ _ _ => check_least (.inr (by omega))
  have hC2 : ∀ is y m k w d s b, F_until_Check [.b is, .i y, .i m, .i k, .i w, .i d, .i s, .i b, .i (-10801 - far)] = some [.i 2] := fun _ _ _ _ _ _ _ _ => check_least (.inl (by omega))
  have hI1 : ∀ sv is y m k w d s b, F_until_Instant [.i (604800 + far), .i 0, .i sv, .s [], .s [], .b is, .i y, .i m, .i k, .i w, .i d, .i s, .i b, .n 0, .l []] = some [.i 0, .i 3] := fun _ _ _ _ _ _ _ _ _ => inst_off (.inr (by omega))
  have hI2 : ∀ sv is y m k w d s b, F_until_Instant [.i (-604800 - far), .i 0, .i sv, .s [], .s [], .b is, .i y, .i m, .i k, .i w, .i d, .i s, .i b, .n 0, .l []] = some [.i 0, .i 3] := fun _ _ _ _ _ _ _ _ _ => inst_off (.inl (by omega))
  have hI3 : ∀ is y m k w d s b, F_until_Instant [.i 0, .i 1, .i (604800 + far), .s [], .s [], .b is, .i y, .i m, .i k, .i w, .i d, .i s, .i b, .n 0, .l []] = some [.i 0, .i 3] := fun _ _ _ _ _ _ _ _ => inst_save (.inr (by omega))
  have hI4 : ∀ o sv is y m k w d s b, F_until_Instant [.i o, .i (3 + far), .i sv, .s [], .s [], .b is, .i y, .i m, .i k, .i w, .i d, .i s, .i b, .n 0, .l []] = some [.i 0, .i 2] := fun _ _ _ _ _ _ _ _ _ _ => inst_kind (.inr (by omega))
  have hI5 : ∀ o sv is y m k w d s b, F_until_Instant [.i o, .i (-1 - far), .i sv, .s [], .s [], .b is, .i y, .i m, .i k, .i w, .i d, .i s, .i b, .n 0, .l []] = some [.i 0, .i 2] := fun _ _ _ _ _ _ _ _ _ _ => inst_kind (.inl (by omega))
  have hw : F_law22_works [] = some [.b true] := rfl
  have t0 : decide ((0 : Int) = 0) = true := rfl
  have t2 : decide ((2 : Int) = 2) = true := rfl
  have t3 : decide ((3 : Int) = 3) = true := rfl
  have t4 : decide ((4 : Int) = 4) = true := rfl
  have g1 : i64 (0 - far) = 0 - far := i64_in _ (by omega)
  have g2 : i64 (13 + far) = 13 + far := i64_in _ (by omega)
  have q1 : asI .i64 ([(Ax.AV.int .i64 (Ax.I.sym (0 - far))), (Ax.AV.int .i64 (Ax.I.sym (13 + far)))])[((0 : Int)).toNat]? = some (0 - far) := rfl
  have q2 : decide ((0 : Int) ≤ 0 ∧ (0 : Int) < 2) = true := by decide
  have hO := on_range (y := y) (m := 0 - far) (k := k) (w := w) (d := d) (days_month (by omega) (.inl (by omega)))
  obtain ⟨r1, r2, r3⟩ := range_ref (s := s) (b := b) hO (by omega) (.inl (by decide))
  have d3_0 : decide ((3 : Int) = 0) = false := rfl
  have d3_1 : decide ((3 : Int) = 1) = false := rfl
  have d3_2 : decide ((3 : Int) = 2) = false := rfl
  have d3_3 : decide ((3 : Int) = 3) = true := rfl
  clear hG hs hy hm hf
  unfold F_law22_UntilRefuses
  simp only [hM, hr, d3_0, d3_1, d3_2, d3_3, f0, f1, f2, f3, f4, f5, f6, hC1, hC2, hI1, hI2, hI3, hI4, hI5, hw, t0, t2, t3, t4, hp, g1, g2, q1, q2, r1, r2, r3, decide_true, decide_false, onI_c, onB_c, onS_c, Option.bind_some, cond_true, cond_false, ↓onI_c, ↓onB_c, ↓onS_c, ↓Option.bind_some, ↓cond_true, ↓cond_false, Bool.not_true, Bool.not_false]
theorem refs_3_1 {what far a0 a1 a2 a3 a4 a5 a6 y m k w d s b : Int} (hr : Int.tmod what 10 = 3) (hf : 0 ≤ far ∧ far ≤ 4294967295)
    (hM : F__law22_Draft__Made [.i a0, .i a1, .i a2, .i a3, .i a4, .i a5, .i a6, .i 0] = some [.b true, .i y, .i m, .i k, .i w, .i d, .i s, .i b]) (hy : 1850 ≤ y ∧ y ≤ 2149) (hm : 1 ≤ m ∧ m ≤ 12) (hG : Good k w d) (hs : -9000000 ≤ s ∧ s ≤ 9000000) (hp : Int.tmod far 2 = 1) :
    F_law22_UntilRefuses [.i a0, .i a1, .i a2, .i a3, .i a4, .i a5, .i a6, .i what, .i far] = some [.b true] := by
  have f0 : i64 far = far := i64_in _ (by omega)
  have f1 : i64 (604800 + far) = 604800 + far := i64_in _ (by omega)
  have f2 : i64 (-604800 - far) = -604800 - far := i64_in _ (by omega)
  have f3 : i64 (3 + far) = 3 + far := i64_in _ (by omega)
  have f4 : i64 (-1 - far) = -1 - far := i64_in _ (by omega)
  have f5 : i64 (1 + far) = 1 + far := i64_in _ (by omega)
  have f6 : i64 (-10801 - far) = -10801 - far := i64_in _ (by omega)
  have hC1 : ∀ is y m k w d s b, F_until_Check [.b is, .i y, .i m, .i k, .i w, .i d, .i s, .i b, .i (1 + far)] = some [.i 2] := fun _ _ _ _ _ _ _ _ => check_least (.inr (by omega))
  have hC2 : ∀ is y m k w d s b, F_until_Check [.b is, .i y, .i m, .i k, .i w, .i d, .i s, .i b, .i (-10801 - far)] = some [.i 2] := fun _ _ _ _ _ _ _ _ => check_least (.inl (by omega))
  have hI1 : ∀ sv is y m k w d s b, F_until_Instant [.i (604800 + far), .i 0, .i sv, .s [], .s [], .b is, .i y, .i m, .i k, .i w, .i d, .i s, .i b, .n 0, .l []] = some [.i 0, .i 3] := fun _ _ _ _ _ _ _ _ _ => inst_off (.inr (by omega))
  have hI2 : ∀ sv is y m k w d s b, F_until_Instant [.i (-604800 - far), .i 0, .i sv, .s [], .s [], .b is, .i y, .i m, .i k, .i w, .i d, .i s, .i b, .n 0, .l []] = some [.i 0, .i 3] := fun _ _ _ _ _ _ _ _ _ => inst_off (.inl (by omega))
  have hI3 : ∀ is y m k w d s b, F_until_Instant [.i 0, .i 1, .i (604800 + far), .s [], .s [], .b is, .i y, .i m, .i k, .i w, .i d, .i s, .i b, .n 0, .l []] = some [.i 0, .i 3] := fun _ _ _ _ _ _ _ _ => inst_save (.inr (by omega))
  have hI4 : ∀ o sv is y m k w d s b, F_until_Instant [.i o, .i (3 + far), .i sv, .s [], .s [], .b is, .i y, .i m, .i k, .i w, .i d, .i s, .i b, .n 0, .l []] = some [.i 0, .i 2] := fun _ _ _ _ _ _ _ _ _ _ => inst_kind (.inr (by omega))
  have hI5 : ∀ o sv is y m k w d s b, F_until_Instant [.i o, .i (-1 - far), .i sv, .s [], .s [], .b is, .i y, .i m, .i k, .i w, .i d, .i s, .i b, .n 0, .l []] = some [.i 0, .i 2] := fun _ _ _ _ _ _ _ _ _ _ => inst_kind (.inl (by omega))
  have hw : F_law22_works [] = some [.b true] := rfl
  have t0 : decide ((0 : Int) = 0) = true := rfl
  have t2 : decide ((2 : Int) = 2) = true := rfl
  have t3 : decide ((3 : Int) = 3) = true := rfl
  have t4 : decide ((4 : Int) = 4) = true := rfl
  have g1 : i64 (0 - far) = 0 - far := i64_in _ (by omega)
  have g2 : i64 (13 + far) = 13 + far := i64_in _ (by omega)
  have q1 : asI .i64 ([(Ax.AV.int .i64 (Ax.I.sym (0 - far))), (Ax.AV.int .i64 (Ax.I.sym (13 + far)))])[((1 : Int)).toNat]? = some (13 + far) := rfl
  have q2 : decide ((0 : Int) ≤ 1 ∧ (1 : Int) < 2) = true := by decide
  have hO := on_range (y := y) (m := 13 + far) (k := k) (w := w) (d := d) (days_month (by omega) (.inr (by omega)))
  obtain ⟨r1, r2, r3⟩ := range_ref (s := s) (b := b) hO (by omega) (.inl (by decide))
  have d3_0 : decide ((3 : Int) = 0) = false := rfl
  have d3_1 : decide ((3 : Int) = 1) = false := rfl
  have d3_2 : decide ((3 : Int) = 2) = false := rfl
  have d3_3 : decide ((3 : Int) = 3) = true := rfl
  clear hG hs hy hm hf
  unfold F_law22_UntilRefuses
  simp only [hM, hr, d3_0, d3_1, d3_2, d3_3, f0, f1, f2, f3, f4, f5, f6, hC1, hC2, hI1, hI2, hI3, hI4, hI5, hw, t0, t2, t3, t4, hp, g1, g2, q1, q2, r1, r2, r3, decide_true, decide_false, onI_c, onB_c, onS_c, Option.bind_some, cond_true, cond_false, ↓onI_c, ↓onB_c, ↓onS_c, ↓Option.bind_some, ↓cond_true, ↓cond_false, Bool.not_true, Bool.not_false]
theorem refs_6_0 {what far a0 a1 a2 a3 a4 a5 a6 y m k w d s b : Int} (hr : Int.tmod what 10 = 6) (hf : 0 ≤ far ∧ far ≤ 4294967295)
    (hM : F__law22_Draft__Made [.i a0, .i a1, .i a2, .i a3, .i a4, .i a5, .i a6, .i 0] = some [.b true, .i y, .i m, .i k, .i w, .i d, .i s, .i b]) (hy : 1850 ≤ y ∧ y ≤ 2149) (hm : 1 ≤ m ∧ m ≤ 12) (hG : Good k w d) (hs : -9000000 ≤ s ∧ s ≤ 9000000) (hp : Int.tmod far 2 = 0) :
    F_law22_UntilRefuses [.i a0, .i a1, .i a2, .i a3, .i a4, .i a5, .i a6, .i what, .i far] = some [.b true] := by
  have f0 : i64 far = far := i64_in _ (by omega)
  have f1 : i64 (604800 + far) = 604800 + far := i64_in _ (by omega)
  have f2 : i64 (-604800 - far) = -604800 - far := i64_in _ (by omega)
  have f3 : i64 (3 + far) = 3 + far := i64_in _ (by omega)
  have f4 : i64 (-1 - far) = -1 - far := i64_in _ (by omega)
  have f5 : i64 (1 + far) = 1 + far := i64_in _ (by omega)
  have f6 : i64 (-10801 - far) = -10801 - far := i64_in _ (by omega)
  have hC1 : ∀ is y m k w d s b, F_until_Check [.b is, .i y, .i m, .i k, .i w, .i d, .i s, .i b, .i (1 + far)] = some [.i 2] := fun _ _ _ _ _ _ _ _ => check_least (.inr (by omega))
  have hC2 : ∀ is y m k w d s b, F_until_Check [.b is, .i y, .i m, .i k, .i w, .i d, .i s, .i b, .i (-10801 - far)] = some [.i 2] := fun _ _ _ _ _ _ _ _ => check_least (.inl (by omega))
  have hI1 : ∀ sv is y m k w d s b, F_until_Instant [.i (604800 + far), .i 0, .i sv, .s [], .s [], .b is, .i y, .i m, .i k, .i w, .i d, .i s, .i b, .n 0, .l []] = some [.i 0, .i 3] := fun _ _ _ _ _ _ _ _ _ => inst_off (.inr (by omega))
  have hI2 : ∀ sv is y m k w d s b, F_until_Instant [.i (-604800 - far), .i 0, .i sv, .s [], .s [], .b is, .i y, .i m, .i k, .i w, .i d, .i s, .i b, .n 0, .l []] = some [.i 0, .i 3] := fun _ _ _ _ _ _ _ _ _ => inst_off (.inl (by omega))
  have hI3 : ∀ is y m k w d s b, F_until_Instant [.i 0, .i 1, .i (604800 + far), .s [], .s [], .b is, .i y, .i m, .i k, .i w, .i d, .i s, .i b, .n 0, .l []] = some [.i 0, .i 3] := fun _ _ _ _ _ _ _ _ => inst_save (.inr (by omega))
  have hI4 : ∀ o sv is y m k w d s b, F_until_Instant [.i o, .i (3 + far), .i sv, .s [], .s [], .b is, .i y, .i m, .i k, .i w, .i d, .i s, .i b, .n 0, .l []] = some [.i 0, .i 2] := fun _ _ _ _ _ _ _ _ _ _ => inst_kind (.inr (by omega))
  have hI5 : ∀ o sv is y m k w d s b, F_until_Instant [.i o, .i (-1 - far), .i sv, .s [], .s [], .b is, .i y, .i m, .i k, .i w, .i d, .i s, .i b, .n 0, .l []] = some [.i 0, .i 2] := fun _ _ _ _ _ _ _ _ _ _ => inst_kind (.inl (by omega))
  have hw : F_law22_works [] = some [.b true] := rfl
  have t0 : decide ((0 : Int) = 0) = true := rfl
  have t2 : decide ((2 : Int) = 2) = true := rfl
  have t3 : decide ((3 : Int) = 3) = true := rfl
  have t4 : decide ((4 : Int) = 4) = true := rfl
  have g1 : i64 (3 + far) = 3 + far := i64_in _ (by omega)
  have g2 : i64 (-1 - far) = -1 - far := i64_in _ (by omega)
  have q1 : asI .i64 ([(Ax.AV.int .i64 (Ax.I.sym (3 + far))), (Ax.AV.int .i64 (Ax.I.sym (-1 - far)))])[((0 : Int)).toNat]? = some (3 + far) := rfl
  have q2 : decide ((0 : Int) ≤ 0 ∧ (0 : Int) < 2) = true := by decide
  obtain ⟨v, e, hO⟩ := on_any (y := y) (by omega) hm hG
  obtain ⟨r1, r2, r3⟩ := range_ref (s := s) (b := 3 + far) hO (by omega) (.inr (.inr (.inr (.inr (by omega)))))
  have d6_0 : decide ((6 : Int) = 0) = false := rfl
  have d6_1 : decide ((6 : Int) = 1) = false := rfl
  have d6_2 : decide ((6 : Int) = 2) = false := rfl
  have d6_3 : decide ((6 : Int) = 3) = false := rfl
  have d6_4 : decide ((6 : Int) = 4) = false := rfl
  have d6_5 : decide ((6 : Int) = 5) = false := rfl
  have d6_6 : decide ((6 : Int) = 6) = true := rfl
  clear hG hs hy hm hf
  unfold F_law22_UntilRefuses
  simp only [hM, hr, d6_0, d6_1, d6_2, d6_3, d6_4, d6_5, d6_6, f0, f1, f2, f3, f4, f5, f6, hC1, hC2, hI1, hI2, hI3, hI4, hI5, hw, t0, t2, t3, t4, hp, g1, g2, q1, q2, r1, r2, r3, decide_true, decide_false, onI_c, onB_c, onS_c, Option.bind_some, cond_true, cond_false, ↓onI_c, ↓onB_c, ↓onS_c, ↓Option.bind_some, ↓cond_true, ↓cond_false, Bool.not_true, Bool.not_false]
theorem refs_6_1 {what far a0 a1 a2 a3 a4 a5 a6 y m k w d s b : Int} (hr : Int.tmod what 10 = 6) (hf : 0 ≤ far ∧ far ≤ 4294967295)
    (hM : F__law22_Draft__Made [.i a0, .i a1, .i a2, .i a3, .i a4, .i a5, .i a6, .i 0] = some [.b true, .i y, .i m, .i k, .i w, .i d, .i s, .i b]) (hy : 1850 ≤ y ∧ y ≤ 2149) (hm : 1 ≤ m ∧ m ≤ 12) (hG : Good k w d) (hs : -9000000 ≤ s ∧ s ≤ 9000000) (hp : Int.tmod far 2 = 1) :
    F_law22_UntilRefuses [.i a0, .i a1, .i a2, .i a3, .i a4, .i a5, .i a6, .i what, .i far] = some [.b true] := by
  have f0 : i64 far = far := i64_in _ (by omega)
  have f1 : i64 (604800 + far) = 604800 + far := i64_in _ (by omega)
  have f2 : i64 (-604800 - far) = -604800 - far := i64_in _ (by omega)
  have f3 : i64 (3 + far) = 3 + far := i64_in _ (by omega)
  have f4 : i64 (-1 - far) = -1 - far := i64_in _ (by omega)
  have f5 : i64 (1 + far) = 1 + far := i64_in _ (by omega)
  have f6 : i64 (-10801 - far) = -10801 - far := i64_in _ (by omega)
  have hC1 : ∀ is y m k w d s b, F_until_Check [.b is, .i y, .i m, .i k, .i w, .i d, .i s, .i b, .i (1 + far)] = some [.i 2] := fun _ _ _ _ _ _ _ _ => check_least (.inr (by omega))
  have hC2 : ∀ is y m k w d s b, F_until_Check [.b is, .i y, .i m, .i k, .i w, .i d, .i s, .i b, .i (-10801 - far)] = some [.i 2] := fun _ _ _ _ _ _ _ _ => check_least (.inl (by omega))
  have hI1 : ∀ sv is y m k w d s b, F_until_Instant [.i (604800 + far), .i 0, .i sv, .s [], .s [], .b is, .i y, .i m, .i k, .i w, .i d, .i s, .i b, .n 0, .l []] = some [.i 0, .i 3] := fun _ _ _ _ _ _ _ _ _ => inst_off (.inr (by omega))
  have hI2 : ∀ sv is y m k w d s b, F_until_Instant [.i (-604800 - far), .i 0, .i sv, .s [], .s [], .b is, .i y, .i m, .i k, .i w, .i d, .i s, .i b, .n 0, .l []] = some [.i 0, .i 3] := fun _ _ _ _ _ _ _ _ _ => inst_off (.inl (by omega))
  have hI3 : ∀ is y m k w d s b, F_until_Instant [.i 0, .i 1, .i (604800 + far), .s [], .s [], .b is, .i y, .i m, .i k, .i w, .i d, .i s, .i b, .n 0, .l []] = some [.i 0, .i 3] := fun _ _ _ _ _ _ _ _ => inst_save (.inr (by omega))
  have hI4 : ∀ o sv is y m k w d s b, F_until_Instant [.i o, .i (3 + far), .i sv, .s [], .s [], .b is, .i y, .i m, .i k, .i w, .i d, .i s, .i b, .n 0, .l []] = some [.i 0, .i 2] := fun _ _ _ _ _ _ _ _ _ _ => inst_kind (.inr (by omega))
  have hI5 : ∀ o sv is y m k w d s b, F_until_Instant [.i o, .i (-1 - far), .i sv, .s [], .s [], .b is, .i y, .i m, .i k, .i w, .i d, .i s, .i b, .n 0, .l []] = some [.i 0, .i 2] := fun _ _ _ _ _ _ _ _ _ _ => inst_kind (.inl (by omega))
  have hw : F_law22_works [] = some [.b true] := rfl
  have t0 : decide ((0 : Int) = 0) = true := rfl
  have t2 : decide ((2 : Int) = 2) = true := rfl
  have t3 : decide ((3 : Int) = 3) = true := rfl
  have t4 : decide ((4 : Int) = 4) = true := rfl
  have g1 : i64 (3 + far) = 3 + far := i64_in _ (by omega)
  have g2 : i64 (-1 - far) = -1 - far := i64_in _ (by omega)
  have q1 : asI .i64 ([(Ax.AV.int .i64 (Ax.I.sym (3 + far))), (Ax.AV.int .i64 (Ax.I.sym (-1 - far)))])[((1 : Int)).toNat]? = some (-1 - far) := rfl
  have q2 : decide ((0 : Int) ≤ 1 ∧ (1 : Int) < 2) = true := by decide
  obtain ⟨v, e, hO⟩ := on_any (y := y) (by omega) hm hG
  obtain ⟨r1, r2, r3⟩ := range_ref (s := s) (b := -1 - far) hO (by omega) (.inr (.inr (.inr (.inl (by omega)))))
  have d6_0 : decide ((6 : Int) = 0) = false := rfl
  have d6_1 : decide ((6 : Int) = 1) = false := rfl
  have d6_2 : decide ((6 : Int) = 2) = false := rfl
  have d6_3 : decide ((6 : Int) = 3) = false := rfl
  have d6_4 : decide ((6 : Int) = 4) = false := rfl
  have d6_5 : decide ((6 : Int) = 5) = false := rfl
  have d6_6 : decide ((6 : Int) = 6) = true := rfl
  clear hG hs hy hm hf
  unfold F_law22_UntilRefuses
  simp only [hM, hr, d6_0, d6_1, d6_2, d6_3, d6_4, d6_5, d6_6, f0, f1, f2, f3, f4, f5, f6, hC1, hC2, hI1, hI2, hI3, hI4, hI5, hw, t0, t2, t3, t4, hp, g1, g2, q1, q2, r1, r2, r3, decide_true, decide_false, onI_c, onB_c, onS_c, Option.bind_some, cond_true, cond_false, ↓onI_c, ↓onB_c, ↓onS_c, ↓Option.bind_some, ↓cond_true, ↓cond_false, Bool.not_true, Bool.not_false]
theorem refs_4_0 {what far a0 a1 a2 a3 a4 a5 a6 y m k w d s b : Int} (hr : Int.tmod what 10 = 4) (hf : 0 ≤ far ∧ far ≤ 4294967295)
    (hM : F__law22_Draft__Made [.i a0, .i a1, .i a2, .i a3, .i a4, .i a5, .i a6, .i 0] = some [.b true, .i y, .i m, .i k, .i w, .i d, .i s, .i b]) (hy : 1850 ≤ y ∧ y ≤ 2149) (hm : 1 ≤ m ∧ m ≤ 12) (hG : Good k w d) (hs : -9000000 ≤ s ∧ s ≤ 9000000) (hp : Int.tmod far 5 = 0) :
    F_law22_UntilRefuses [.i a0, .i a1, .i a2, .i a3, .i a4, .i a5, .i a6, .i what, .i far] = some [.b true] := by
  have f0 : i64 far = far := i64_in _ (by omega)
  have f1 : i64 (604800 + far) = 604800 + far := i64_in _ (by omega)
  have f2 : i64 (-604800 - far) = -604800 - far := i64_in _ (by omega)
  have f3 : i64 (3 + far) = 3 + far := i64_in _ (by omega)
  have f4 : i64 (-1 - far) = -1 - far := i64_in _ (by omega)
  have f5 : i64 (1 + far) = 1 + far := i64_in _ (by omega)
  have f6 : i64 (-10801 - far) = -10801 - far := i64_in _ (by omega)
  have hC1 : ∀ is y m k w d s b, F_until_Check [.b is, .i y, .i m, .i k, .i w, .i d, .i s, .i b, .i (1 + far)] = some [.i 2] := fun _ _ _ _ _ _ _ _ => check_least (.inr (by omega))
  have hC2 : ∀ is y m k w d s b, F_until_Check [.b is, .i y, .i m, .i k, .i w, .i d, .i s, .i b, .i (-10801 - far)] = some [.i 2] := fun _ _ _ _ _ _ _ _ => check_least (.inl (by omega))
  have hI1 : ∀ sv is y m k w d s b, F_until_Instant [.i (604800 + far), .i 0, .i sv, .s [], .s [], .b is, .i y, .i m, .i k, .i w, .i d, .i s, .i b, .n 0, .l []] = some [.i 0, .i 3] := fun _ _ _ _ _ _ _ _ _ => inst_off (.inr (by omega))
  have hI2 : ∀ sv is y m k w d s b, F_until_Instant [.i (-604800 - far), .i 0, .i sv, .s [], .s [], .b is, .i y, .i m, .i k, .i w, .i d, .i s, .i b, .n 0, .l []] = some [.i 0, .i 3] := fun _ _ _ _ _ _ _ _ _ => inst_off (.inl (by omega))
  have hI3 : ∀ is y m k w d s b, F_until_Instant [.i 0, .i 1, .i (604800 + far), .s [], .s [], .b is, .i y, .i m, .i k, .i w, .i d, .i s, .i b, .n 0, .l []] = some [.i 0, .i 3] := fun _ _ _ _ _ _ _ _ => inst_save (.inr (by omega))
  have hI4 : ∀ o sv is y m k w d s b, F_until_Instant [.i o, .i (3 + far), .i sv, .s [], .s [], .b is, .i y, .i m, .i k, .i w, .i d, .i s, .i b, .n 0, .l []] = some [.i 0, .i 2] := fun _ _ _ _ _ _ _ _ _ _ => inst_kind (.inr (by omega))
  have hI5 : ∀ o sv is y m k w d s b, F_until_Instant [.i o, .i (-1 - far), .i sv, .s [], .s [], .b is, .i y, .i m, .i k, .i w, .i d, .i s, .i b, .n 0, .l []] = some [.i 0, .i 2] := fun _ _ _ _ _ _ _ _ _ _ => inst_kind (.inl (by omega))
  have hw : F_law22_works [] = some [.b true] := rfl
  have t0 : decide ((0 : Int) = 0) = true := rfl
  have t2 : decide ((2 : Int) = 2) = true := rfl
  have t3 : decide ((3 : Int) = 3) = true := rfl
  have t4 : decide ((4 : Int) = 4) = true := rfl
  have q1 : asI .i64 ([(Ax.AV.int .i64 (Ax.I.lit 2)), (Ax.AV.int .i64 (Ax.I.lit 4)), (Ax.AV.int .i64 (Ax.I.lit 6)), (Ax.AV.int .i64 (Ax.I.lit 9)), (Ax.AV.int .i64 (Ax.I.lit 11))])[((0 : Int)).toNat]? = some 2 := rfl
  have q2 : decide ((0 : Int) ≤ 0 ∧ (0 : Int) < 5) = true := by decide
  have hl : ln y 2 < 31 := by unfold ln; simp <;> (try split) <;> omega
  have hO := on_fixed (y := y) (m := 2) (d := 31) (by omega) (by omega) (by omega)
  rw [if_pos hl] at hO
  obtain ⟨r1, r2, r3⟩ := range_ref (s := s) (b := b) hO (by omega) (.inl (by decide))
  have d4_0 : decide ((4 : Int) = 0) = false := rfl
  have d4_1 : decide ((4 : Int) = 1) = false := rfl
  have d4_2 : decide ((4 : Int) = 2) = false := rfl
  have d4_3 : decide ((4 : Int) = 3) = false := rfl
  have d4_4 : decide ((4 : Int) = 4) = true := rfl
  clear hG hs hy hm hf
  unfold F_law22_UntilRefuses
  simp only [hM, hr, d4_0, d4_1, d4_2, d4_3, d4_4, f0, f1, f2, f3, f4, f5, f6, hC1, hC2, hI1, hI2, hI3, hI4, hI5, hw, t0, t2, t3, t4, hp, q1, q2, r1, r2, r3, decide_true, decide_false, onI_c, onB_c, onS_c, Option.bind_some, cond_true, cond_false, ↓onI_c, ↓onB_c, ↓onS_c, ↓Option.bind_some, ↓cond_true, ↓cond_false, Bool.not_true, Bool.not_false]
theorem refs_4_1 {what far a0 a1 a2 a3 a4 a5 a6 y m k w d s b : Int} (hr : Int.tmod what 10 = 4) (hf : 0 ≤ far ∧ far ≤ 4294967295)
    (hM : F__law22_Draft__Made [.i a0, .i a1, .i a2, .i a3, .i a4, .i a5, .i a6, .i 0] = some [.b true, .i y, .i m, .i k, .i w, .i d, .i s, .i b]) (hy : 1850 ≤ y ∧ y ≤ 2149) (hm : 1 ≤ m ∧ m ≤ 12) (hG : Good k w d) (hs : -9000000 ≤ s ∧ s ≤ 9000000) (hp : Int.tmod far 5 = 1) :
    F_law22_UntilRefuses [.i a0, .i a1, .i a2, .i a3, .i a4, .i a5, .i a6, .i what, .i far] = some [.b true] := by
  have f0 : i64 far = far := i64_in _ (by omega)
  have f1 : i64 (604800 + far) = 604800 + far := i64_in _ (by omega)
  have f2 : i64 (-604800 - far) = -604800 - far := i64_in _ (by omega)
  have f3 : i64 (3 + far) = 3 + far := i64_in _ (by omega)
  have f4 : i64 (-1 - far) = -1 - far := i64_in _ (by omega)
  have f5 : i64 (1 + far) = 1 + far := i64_in _ (by omega)
  have f6 : i64 (-10801 - far) = -10801 - far := i64_in _ (by omega)
  have hC1 : ∀ is y m k w d s b, F_until_Check [.b is, .i y, .i m, .i k, .i w, .i d, .i s, .i b, .i (1 + far)] = some [.i 2] := fun _ _ _ _ _ _ _ _ => check_least (.inr (by omega))
  have hC2 : ∀ is y m k w d s b, F_until_Check [.b is, .i y, .i m, .i k, .i w, .i d, .i s, .i b, .i (-10801 - far)] = some [.i 2] := fun _ _ _ _ _ _ _ _ => check_least (.inl (by omega))
  have hI1 : ∀ sv is y m k w d s b, F_until_Instant [.i (604800 + far), .i 0, .i sv, .s [], .s [], .b is, .i y, .i m, .i k, .i w, .i d, .i s, .i b, .n 0, .l []] = some [.i 0, .i 3] := fun _ _ _ _ _ _ _ _ _ => inst_off (.inr (by omega))
  have hI2 : ∀ sv is y m k w d s b, F_until_Instant [.i (-604800 - far), .i 0, .i sv, .s [], .s [], .b is, .i y, .i m, .i k, .i w, .i d, .i s, .i b, .n 0, .l []] = some [.i 0, .i 3] := fun _ _ _ _ _ _ _ _ _ => inst_off (.inl (by omega))
  have hI3 : ∀ is y m k w d s b, F_until_Instant [.i 0, .i 1, .i (604800 + far), .s [], .s [], .b is, .i y, .i m, .i k, .i w, .i d, .i s, .i b, .n 0, .l []] = some [.i 0, .i 3] := fun _ _ _ _ _ _ _ _ => inst_save (.inr (by omega))
  have hI4 : ∀ o sv is y m k w d s b, F_until_Instant [.i o, .i (3 + far), .i sv, .s [], .s [], .b is, .i y, .i m, .i k, .i w, .i d, .i s, .i b, .n 0, .l []] = some [.i 0, .i 2] := fun _ _ _ _ _ _ _ _ _ _ => inst_kind (.inr (by omega))
  have hI5 : ∀ o sv is y m k w d s b, F_until_Instant [.i o, .i (-1 - far), .i sv, .s [], .s [], .b is, .i y, .i m, .i k, .i w, .i d, .i s, .i b, .n 0, .l []] = some [.i 0, .i 2] := fun _ _ _ _ _ _ _ _ _ _ => inst_kind (.inl (by omega))
  have hw : F_law22_works [] = some [.b true] := rfl
  have t0 : decide ((0 : Int) = 0) = true := rfl
  have t2 : decide ((2 : Int) = 2) = true := rfl
  have t3 : decide ((3 : Int) = 3) = true := rfl
  have t4 : decide ((4 : Int) = 4) = true := rfl
  have q1 : asI .i64 ([(Ax.AV.int .i64 (Ax.I.lit 2)), (Ax.AV.int .i64 (Ax.I.lit 4)), (Ax.AV.int .i64 (Ax.I.lit 6)), (Ax.AV.int .i64 (Ax.I.lit 9)), (Ax.AV.int .i64 (Ax.I.lit 11))])[((1 : Int)).toNat]? = some 4 := rfl
  have q2 : decide ((0 : Int) ≤ 1 ∧ (1 : Int) < 5) = true := by decide
  have hl : ln y 4 < 31 := by unfold ln; simp <;> (try split) <;> omega
  have hO := on_fixed (y := y) (m := 4) (d := 31) (by omega) (by omega) (by omega)
  rw [if_pos hl] at hO
  obtain ⟨r1, r2, r3⟩ := range_ref (s := s) (b := b) hO (by omega) (.inl (by decide))
  have d4_0 : decide ((4 : Int) = 0) = false := rfl
  have d4_1 : decide ((4 : Int) = 1) = false := rfl
  have d4_2 : decide ((4 : Int) = 2) = false := rfl
  have d4_3 : decide ((4 : Int) = 3) = false := rfl
  have d4_4 : decide ((4 : Int) = 4) = true := rfl
  clear hG hs hy hm hf
  unfold F_law22_UntilRefuses
  simp only [hM, hr, d4_0, d4_1, d4_2, d4_3, d4_4, f0, f1, f2, f3, f4, f5, f6, hC1, hC2, hI1, hI2, hI3, hI4, hI5, hw, t0, t2, t3, t4, hp, q1, q2, r1, r2, r3, decide_true, decide_false, onI_c, onB_c, onS_c, Option.bind_some, cond_true, cond_false, ↓onI_c, ↓onB_c, ↓onS_c, ↓Option.bind_some, ↓cond_true, ↓cond_false, Bool.not_true, Bool.not_false]
theorem refs_4_2 {what far a0 a1 a2 a3 a4 a5 a6 y m k w d s b : Int} (hr : Int.tmod what 10 = 4) (hf : 0 ≤ far ∧ far ≤ 4294967295)
    (hM : F__law22_Draft__Made [.i a0, .i a1, .i a2, .i a3, .i a4, .i a5, .i a6, .i 0] = some [.b true, .i y, .i m, .i k, .i w, .i d, .i s, .i b]) (hy : 1850 ≤ y ∧ y ≤ 2149) (hm : 1 ≤ m ∧ m ≤ 12) (hG : Good k w d) (hs : -9000000 ≤ s ∧ s ≤ 9000000) (hp : Int.tmod far 5 = 2) :
    F_law22_UntilRefuses [.i a0, .i a1, .i a2, .i a3, .i a4, .i a5, .i a6, .i what, .i far] = some [.b true] := by
  have f0 : i64 far = far := i64_in _ (by omega)
  have f1 : i64 (604800 + far) = 604800 + far := i64_in _ (by omega)
  have f2 : i64 (-604800 - far) = -604800 - far := i64_in _ (by omega)
  have f3 : i64 (3 + far) = 3 + far := i64_in _ (by omega)
  have f4 : i64 (-1 - far) = -1 - far := i64_in _ (by omega)
  have f5 : i64 (1 + far) = 1 + far := i64_in _ (by omega)
  have f6 : i64 (-10801 - far) = -10801 - far := i64_in _ (by omega)
  have hC1 : ∀ is y m k w d s b, F_until_Check [.b is, .i y, .i m, .i k, .i w, .i d, .i s, .i b, .i (1 + far)] = some [.i 2] := fun _ _ _ _ _ _ _ _ => check_least (.inr (by omega))
  have hC2 : ∀ is y m k w d s b, F_until_Check [.b is, .i y, .i m, .i k, .i w, .i d, .i s, .i b, .i (-10801 - far)] = some [.i 2] := fun _ _ _ _ _ _ _ _ => check_least (.inl (by omega))
  have hI1 : ∀ sv is y m k w d s b, F_until_Instant [.i (604800 + far), .i 0, .i sv, .s [], .s [], .b is, .i y, .i m, .i k, .i w, .i d, .i s, .i b, .n 0, .l []] = some [.i 0, .i 3] := fun _ _ _ _ _ _ _ _ _ => inst_off (.inr (by omega))
  have hI2 : ∀ sv is y m k w d s b, F_until_Instant [.i (-604800 - far), .i 0, .i sv, .s [], .s [], .b is, .i y, .i m, .i k, .i w, .i d, .i s, .i b, .n 0, .l []] = some [.i 0, .i 3] := fun _ _ _ _ _ _ _ _ _ => inst_off (.inl (by omega))
  have hI3 : ∀ is y m k w d s b, F_until_Instant [.i 0, .i 1, .i (604800 + far), .s [], .s [], .b is, .i y, .i m, .i k, .i w, .i d, .i s, .i b, .n 0, .l []] = some [.i 0, .i 3] := fun _ _ _ _ _ _ _ _ => inst_save (.inr (by omega))
  have hI4 : ∀ o sv is y m k w d s b, F_until_Instant [.i o, .i (3 + far), .i sv, .s [], .s [], .b is, .i y, .i m, .i k, .i w, .i d, .i s, .i b, .n 0, .l []] = some [.i 0, .i 2] := fun _ _ _ _ _ _ _ _ _ _ => inst_kind (.inr (by omega))
  have hI5 : ∀ o sv is y m k w d s b, F_until_Instant [.i o, .i (-1 - far), .i sv, .s [], .s [], .b is, .i y, .i m, .i k, .i w, .i d, .i s, .i b, .n 0, .l []] = some [.i 0, .i 2] := fun _ _ _ _ _ _ _ _ _ _ => inst_kind (.inl (by omega))
  have hw : F_law22_works [] = some [.b true] := rfl
  have t0 : decide ((0 : Int) = 0) = true := rfl
  have t2 : decide ((2 : Int) = 2) = true := rfl
  have t3 : decide ((3 : Int) = 3) = true := rfl
  have t4 : decide ((4 : Int) = 4) = true := rfl
  have q1 : asI .i64 ([(Ax.AV.int .i64 (Ax.I.lit 2)), (Ax.AV.int .i64 (Ax.I.lit 4)), (Ax.AV.int .i64 (Ax.I.lit 6)), (Ax.AV.int .i64 (Ax.I.lit 9)), (Ax.AV.int .i64 (Ax.I.lit 11))])[((2 : Int)).toNat]? = some 6 := rfl
  have q2 : decide ((0 : Int) ≤ 2 ∧ (2 : Int) < 5) = true := by decide
  have hl : ln y 6 < 31 := by unfold ln; simp <;> (try split) <;> omega
  have hO := on_fixed (y := y) (m := 6) (d := 31) (by omega) (by omega) (by omega)
  rw [if_pos hl] at hO
  obtain ⟨r1, r2, r3⟩ := range_ref (s := s) (b := b) hO (by omega) (.inl (by decide))
  have d4_0 : decide ((4 : Int) = 0) = false := rfl
  have d4_1 : decide ((4 : Int) = 1) = false := rfl
  have d4_2 : decide ((4 : Int) = 2) = false := rfl
  have d4_3 : decide ((4 : Int) = 3) = false := rfl
  have d4_4 : decide ((4 : Int) = 4) = true := rfl
  clear hG hs hy hm hf
  unfold F_law22_UntilRefuses
  simp only [hM, hr, d4_0, d4_1, d4_2, d4_3, d4_4, f0, f1, f2, f3, f4, f5, f6, hC1, hC2, hI1, hI2, hI3, hI4, hI5, hw, t0, t2, t3, t4, hp, q1, q2, r1, r2, r3, decide_true, decide_false, onI_c, onB_c, onS_c, Option.bind_some, cond_true, cond_false, ↓onI_c, ↓onB_c, ↓onS_c, ↓Option.bind_some, ↓cond_true, ↓cond_false, Bool.not_true, Bool.not_false]
theorem refs_4_3 {what far a0 a1 a2 a3 a4 a5 a6 y m k w d s b : Int} (hr : Int.tmod what 10 = 4) (hf : 0 ≤ far ∧ far ≤ 4294967295)
    (hM : F__law22_Draft__Made [.i a0, .i a1, .i a2, .i a3, .i a4, .i a5, .i a6, .i 0] = some [.b true, .i y, .i m, .i k, .i w, .i d, .i s, .i b]) (hy : 1850 ≤ y ∧ y ≤ 2149) (hm : 1 ≤ m ∧ m ≤ 12) (hG : Good k w d) (hs : -9000000 ≤ s ∧ s ≤ 9000000) (hp : Int.tmod far 5 = 3) :
    F_law22_UntilRefuses [.i a0, .i a1, .i a2, .i a3, .i a4, .i a5, .i a6, .i what, .i far] = some [.b true] := by
  have f0 : i64 far = far := i64_in _ (by omega)
  have f1 : i64 (604800 + far) = 604800 + far := i64_in _ (by omega)
  have f2 : i64 (-604800 - far) = -604800 - far := i64_in _ (by omega)
  have f3 : i64 (3 + far) = 3 + far := i64_in _ (by omega)
  have f4 : i64 (-1 - far) = -1 - far := i64_in _ (by omega)
  have f5 : i64 (1 + far) = 1 + far := i64_in _ (by omega)
  have f6 : i64 (-10801 - far) = -10801 - far := i64_in _ (by omega)
  have hC1 : ∀ is y m k w d s b, F_until_Check [.b is, .i y, .i m, .i k, .i w, .i d, .i s, .i b, .i (1 + far)] = some [.i 2] := fun _ _ _ _ _ _ _ _ => check_least (.inr (by omega))
  have hC2 : ∀ is y m k w d s b, F_until_Check [.b is, .i y, .i m, .i k, .i w, .i d, .i s, .i b, .i (-10801 - far)] = some [.i 2] := fun _ _ _ _ _ _ _ _ => check_least (.inl (by omega))
  have hI1 : ∀ sv is y m k w d s b, F_until_Instant [.i (604800 + far), .i 0, .i sv, .s [], .s [], .b is, .i y, .i m, .i k, .i w, .i d, .i s, .i b, .n 0, .l []] = some [.i 0, .i 3] := fun _ _ _ _ _ _ _ _ _ => inst_off (.inr (by omega))
  have hI2 : ∀ sv is y m k w d s b, F_until_Instant [.i (-604800 - far), .i 0, .i sv, .s [], .s [], .b is, .i y, .i m, .i k, .i w, .i d, .i s, .i b, .n 0, .l []] = some [.i 0, .i 3] := fun _ _ _ _ _ _ _ _ _ => inst_off (.inl (by omega))
  have hI3 : ∀ is y m k w d s b, F_until_Instant [.i 0, .i 1, .i (604800 + far), .s [], .s [], .b is, .i y, .i m, .i k, .i w, .i d, .i s, .i b, .n 0, .l []] = some [.i 0, .i 3] := fun _ _ _ _ _ _ _ _ => inst_save (.inr (by omega))
  have hI4 : ∀ o sv is y m k w d s b, F_until_Instant [.i o, .i (3 + far), .i sv, .s [], .s [], .b is, .i y, .i m, .i k, .i w, .i d, .i s, .i b, .n 0, .l []] = some [.i 0, .i 2] := fun _ _ _ _ _ _ _ _ _ _ => inst_kind (.inr (by omega))
  have hI5 : ∀ o sv is y m k w d s b, F_until_Instant [.i o, .i (-1 - far), .i sv, .s [], .s [], .b is, .i y, .i m, .i k, .i w, .i d, .i s, .i b, .n 0, .l []] = some [.i 0, .i 2] := fun _ _ _ _ _ _ _ _ _ _ => inst_kind (.inl (by omega))
  have hw : F_law22_works [] = some [.b true] := rfl
  have t0 : decide ((0 : Int) = 0) = true := rfl
  have t2 : decide ((2 : Int) = 2) = true := rfl
  have t3 : decide ((3 : Int) = 3) = true := rfl
  have t4 : decide ((4 : Int) = 4) = true := rfl
  have q1 : asI .i64 ([(Ax.AV.int .i64 (Ax.I.lit 2)), (Ax.AV.int .i64 (Ax.I.lit 4)), (Ax.AV.int .i64 (Ax.I.lit 6)), (Ax.AV.int .i64 (Ax.I.lit 9)), (Ax.AV.int .i64 (Ax.I.lit 11))])[((3 : Int)).toNat]? = some 9 := rfl
  have q2 : decide ((0 : Int) ≤ 3 ∧ (3 : Int) < 5) = true := by decide
  have hl : ln y 9 < 31 := by unfold ln; simp <;> (try split) <;> omega
  have hO := on_fixed (y := y) (m := 9) (d := 31) (by omega) (by omega) (by omega)
  rw [if_pos hl] at hO
  obtain ⟨r1, r2, r3⟩ := range_ref (s := s) (b := b) hO (by omega) (.inl (by decide))
  have d4_0 : decide ((4 : Int) = 0) = false := rfl
  have d4_1 : decide ((4 : Int) = 1) = false := rfl
  have d4_2 : decide ((4 : Int) = 2) = false := rfl
  have d4_3 : decide ((4 : Int) = 3) = false := rfl
  have d4_4 : decide ((4 : Int) = 4) = true := rfl
  clear hG hs hy hm hf
  unfold F_law22_UntilRefuses
  simp only [hM, hr, d4_0, d4_1, d4_2, d4_3, d4_4, f0, f1, f2, f3, f4, f5, f6, hC1, hC2, hI1, hI2, hI3, hI4, hI5, hw, t0, t2, t3, t4, hp, q1, q2, r1, r2, r3, decide_true, decide_false, onI_c, onB_c, onS_c, Option.bind_some, cond_true, cond_false, ↓onI_c, ↓onB_c, ↓onS_c, ↓Option.bind_some, ↓cond_true, ↓cond_false, Bool.not_true, Bool.not_false]
theorem refs_4_4 {what far a0 a1 a2 a3 a4 a5 a6 y m k w d s b : Int} (hr : Int.tmod what 10 = 4) (hf : 0 ≤ far ∧ far ≤ 4294967295)
    (hM : F__law22_Draft__Made [.i a0, .i a1, .i a2, .i a3, .i a4, .i a5, .i a6, .i 0] = some [.b true, .i y, .i m, .i k, .i w, .i d, .i s, .i b]) (hy : 1850 ≤ y ∧ y ≤ 2149) (hm : 1 ≤ m ∧ m ≤ 12) (hG : Good k w d) (hs : -9000000 ≤ s ∧ s ≤ 9000000) (hp : Int.tmod far 5 = 4) :
    F_law22_UntilRefuses [.i a0, .i a1, .i a2, .i a3, .i a4, .i a5, .i a6, .i what, .i far] = some [.b true] := by
  have f0 : i64 far = far := i64_in _ (by omega)
  have f1 : i64 (604800 + far) = 604800 + far := i64_in _ (by omega)
  have f2 : i64 (-604800 - far) = -604800 - far := i64_in _ (by omega)
  have f3 : i64 (3 + far) = 3 + far := i64_in _ (by omega)
  have f4 : i64 (-1 - far) = -1 - far := i64_in _ (by omega)
  have f5 : i64 (1 + far) = 1 + far := i64_in _ (by omega)
  have f6 : i64 (-10801 - far) = -10801 - far := i64_in _ (by omega)
  have hC1 : ∀ is y m k w d s b, F_until_Check [.b is, .i y, .i m, .i k, .i w, .i d, .i s, .i b, .i (1 + far)] = some [.i 2] := fun _ _ _ _ _ _ _ _ => check_least (.inr (by omega))
  have hC2 : ∀ is y m k w d s b, F_until_Check [.b is, .i y, .i m, .i k, .i w, .i d, .i s, .i b, .i (-10801 - far)] = some [.i 2] := fun _ _ _ _ _ _ _ _ => check_least (.inl (by omega))
  have hI1 : ∀ sv is y m k w d s b, F_until_Instant [.i (604800 + far), .i 0, .i sv, .s [], .s [], .b is, .i y, .i m, .i k, .i w, .i d, .i s, .i b, .n 0, .l []] = some [.i 0, .i 3] := fun _ _ _ _ _ _ _ _ _ => inst_off (.inr (by omega))
  have hI2 : ∀ sv is y m k w d s b, F_until_Instant [.i (-604800 - far), .i 0, .i sv, .s [], .s [], .b is, .i y, .i m, .i k, .i w, .i d, .i s, .i b, .n 0, .l []] = some [.i 0, .i 3] := fun _ _ _ _ _ _ _ _ _ => inst_off (.inl (by omega))
  have hI3 : ∀ is y m k w d s b, F_until_Instant [.i 0, .i 1, .i (604800 + far), .s [], .s [], .b is, .i y, .i m, .i k, .i w, .i d, .i s, .i b, .n 0, .l []] = some [.i 0, .i 3] := fun _ _ _ _ _ _ _ _ => inst_save (.inr (by omega))
  have hI4 : ∀ o sv is y m k w d s b, F_until_Instant [.i o, .i (3 + far), .i sv, .s [], .s [], .b is, .i y, .i m, .i k, .i w, .i d, .i s, .i b, .n 0, .l []] = some [.i 0, .i 2] := fun _ _ _ _ _ _ _ _ _ _ => inst_kind (.inr (by omega))
  have hI5 : ∀ o sv is y m k w d s b, F_until_Instant [.i o, .i (-1 - far), .i sv, .s [], .s [], .b is, .i y, .i m, .i k, .i w, .i d, .i s, .i b, .n 0, .l []] = some [.i 0, .i 2] := fun _ _ _ _ _ _ _ _ _ _ => inst_kind (.inl (by omega))
  have hw : F_law22_works [] = some [.b true] := rfl
  have t0 : decide ((0 : Int) = 0) = true := rfl
  have t2 : decide ((2 : Int) = 2) = true := rfl
  have t3 : decide ((3 : Int) = 3) = true := rfl
  have t4 : decide ((4 : Int) = 4) = true := rfl
  have q1 : asI .i64 ([(Ax.AV.int .i64 (Ax.I.lit 2)), (Ax.AV.int .i64 (Ax.I.lit 4)), (Ax.AV.int .i64 (Ax.I.lit 6)), (Ax.AV.int .i64 (Ax.I.lit 9)), (Ax.AV.int .i64 (Ax.I.lit 11))])[((4 : Int)).toNat]? = some 11 := rfl
  have q2 : decide ((0 : Int) ≤ 4 ∧ (4 : Int) < 5) = true := by decide
  have hl : ln y 11 < 31 := by unfold ln; simp <;> (try split) <;> omega
  have hO := on_fixed (y := y) (m := 11) (d := 31) (by omega) (by omega) (by omega)
  rw [if_pos hl] at hO
  obtain ⟨r1, r2, r3⟩ := range_ref (s := s) (b := b) hO (by omega) (.inl (by decide))
  have d4_0 : decide ((4 : Int) = 0) = false := rfl
  have d4_1 : decide ((4 : Int) = 1) = false := rfl
  have d4_2 : decide ((4 : Int) = 2) = false := rfl
  have d4_3 : decide ((4 : Int) = 3) = false := rfl
  have d4_4 : decide ((4 : Int) = 4) = true := rfl
  clear hG hs hy hm hf
  unfold F_law22_UntilRefuses
  simp only [hM, hr, d4_0, d4_1, d4_2, d4_3, d4_4, f0, f1, f2, f3, f4, f5, f6, hC1, hC2, hI1, hI2, hI3, hI4, hI5, hw, t0, t2, t3, t4, hp, q1, q2, r1, r2, r3, decide_true, decide_false, onI_c, onB_c, onS_c, Option.bind_some, cond_true, cond_false, ↓onI_c, ↓onB_c, ↓onS_c, ↓Option.bind_some, ↓cond_true, ↓cond_false, Bool.not_true, Bool.not_false]
theorem lawP_UntilRefuses {dats : List Dat} (h : DatOk tau [.int .u16, .int .u8, .int .u8, .int .u8, .int .u8, .int .u8, .int .i32, .int .u8, .int .u32] dats) : F_law22_UntilRefuses dats = some [.b true] := by
  obtain ⟨a0, r0, rfl, h0, a1, r1, rfl, h1, a2, r2, rfl, h2, a3, r3, rfl, h3, a4, r4, rfl, h4, a5, r5, rfl, h5, a6, r6, rfl, h6, what, r7, rfl, h7, far, r8, rfl, h8, rfl⟩ := h
  have h7 := wf_u8 h7
  have h8 : 0 ≤ far ∧ far ≤ 4294967295 := wf_u32 h8
  obtain ⟨y, m, k, w, d, s, b, hM, hy, hm, hG, hs⟩ := mk_at (wf_u16 h0) (wf_u8 h1) (wf_u8 h2) (wf_u8 h3) (wf_u8 h4) (wf_u8 h5) (wf_i32 h6)
  clear h0 h1 h2 h3 h4 h5 h6
  have e10 : Int.tmod what 10 = what % 10 := tmod_nn h7.1
  have e2 : Int.tmod far 2 = far % 2 := tmod_nn h8.1
  have e5 : Int.tmod far 5 = far % 5 := tmod_nn h8.1
  have hq : what % 10 = 0 ∨ what % 10 = 1 ∨ what % 10 = 2 ∨ what % 10 = 3 ∨ what % 10 = 4 ∨ what % 10 = 5 ∨ what % 10 = 6 ∨ what % 10 = 7 ∨ what % 10 = 8 ∨ what % 10 = 9 := by omega
  have h2q : far % 2 = 0 ∨ far % 2 = 1 := by omega
  have h5q : far % 5 = 0 ∨ far % 5 = 1 ∨ far % 5 = 2 ∨ far % 5 = 3 ∨ far % 5 = 4 := by omega
  rcases hq with q | q | q | q | q | q | q | q | q | q
  · exact refs_0 (e10.trans q) h8 hM hy hm hG hs
  · exact refs_1 (e10.trans q) h8 hM hy hm hG hs
  · exact refs_2 (e10.trans q) h8 hM hy hm hG hs
  · rcases h2q with p | p
    · exact refs_3_0 (e10.trans q) h8 hM hy hm hG hs (e2.trans p)
    · exact refs_3_1 (e10.trans q) h8 hM hy hm hG hs (e2.trans p)
  · rcases h5q with p | p | p | p | p
    · exact refs_4_0 (e10.trans q) h8 hM hy hm hG hs (e5.trans p)
    · exact refs_4_1 (e10.trans q) h8 hM hy hm hG hs (e5.trans p)
    · exact refs_4_2 (e10.trans q) h8 hM hy hm hG hs (e5.trans p)
    · exact refs_4_3 (e10.trans q) h8 hM hy hm hG hs (e5.trans p)
    · exact refs_4_4 (e10.trans q) h8 hM hy hm hG hs (e5.trans p)
  · exact refs_5 (e10.trans q) h8 hM hy hm hG hs
  · rcases h2q with p | p
    · exact refs_6_0 (e10.trans q) h8 hM hy hm hG hs (e2.trans p)
    · exact refs_6_1 (e10.trans q) h8 hM hy hm hG hs (e2.trans p)
  · exact refs_7 (e10.trans q) h8 hM hy hm hG hs
  · exact refs_8 (e10.trans q) h8 hM hy hm hG hs
  · exact refs_9 (e10.trans q) h8 hM hy hm hG hs
end Go.Proofs.YtcohbcdhcmajiaaDoor
