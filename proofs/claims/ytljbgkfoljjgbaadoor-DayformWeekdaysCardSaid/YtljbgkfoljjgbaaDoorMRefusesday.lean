/-
  Day forms: what is refused.
-/
import Derived.Test.YtljbgkfoljjgbaaDoorMDayday
import Derived.Test.YtljbgkfoljjgbaaDoorAxT
namespace Go.Proofs.YtljbgkfoljjgbaaDoor
open Go.Ax Go.Lib
set_option linter.all false
set_option maxHeartbeats 8000000
attribute [local congr] cond_cong bind_cong onI_cong onB_cong onS_cong onN_cong onL_cong

theorem dworks_at : F_law02_works [] = some [.b true] := rfl
theorem fails_bad {k w d : Int} (h : Bad k w d) : F_law02_fails [.i 2000, .i 1, .i k, .i w, .i d, .i 2] = some [.b true] := by
  have hb := on_bad (y := 2000) (m := 1) (by omega) (by omega) h
  unfold F_law02_fails
  simp (disch := omega) only [onI_c, onS_c, onB_c, onN_c, onL_c, Option.bind_some, Option.map_some, cond_true, cond_false, ↓onI_c, ↓onS_c, ↓onB_c, ↓onN_c, ↓onL_c, ↓Option.bind_some, ↓cond_true, ↓cond_false, decide_eq_true, decide_eq_false, Bool.not_true, Bool.not_false, Int.toNat_natCast, List.length_append, List.length_cons, List.length_nil, List.drop_zero, Nat.zero_add, Nat.add_zero, decT, decF, bneI_t, bneI_f, hb]
theorem fails_month {m k w d : Int} (h : m < 1 ∨ 12 < m) : F_law02_fails [.i 2000, .i m, .i k, .i w, .i d, .i 3] = some [.b true] := by
  have hb := on_range (k := k) (w := w) (d := d) (days_month (y := 2000) (d := 1) (by omega) h)
  unfold F_law02_fails
  simp (disch := omega) only [onI_c, onS_c, onB_c, onN_c, onL_c, Option.bind_some, Option.map_some, cond_true, cond_false, ↓onI_c, ↓onS_c, ↓onB_c, ↓onN_c, ↓onL_c, ↓Option.bind_some, ↓cond_true, ↓cond_false, decide_eq_true, decide_eq_false, Bool.not_true, Bool.not_false, Int.toNat_natCast, List.length_append, List.length_cons, List.length_nil, List.drop_zero, Nat.zero_add, Nat.add_zero, decT, decF, bneI_t, bneI_f, hb]
theorem fails_year {y m k w d : Int} (h : y < -2000000000 ∨ 2000000000 < y) : F_law02_fails [.i y, .i m, .i k, .i w, .i d, .i 3] = some [.b true] := by
  have hb := on_range (k := k) (w := w) (d := d) (days_year (m := m) (d := 1) h)
  unfold F_law02_fails
  simp (disch := omega) only [onI_c, onS_c, onB_c, onN_c, onL_c, Option.bind_some, Option.map_some, cond_true, cond_false, ↓onI_c, ↓onS_c, ↓onB_c, ↓onN_c, ↓onL_c, ↓Option.bind_some, ↓cond_true, ↓cond_false, decide_eq_true, decide_eq_false, Bool.not_true, Bool.not_false, Int.toNat_natCast, List.length_append, List.length_cons, List.length_nil, List.drop_zero, Nat.zero_add, Nat.add_zero, decT, decF, bneI_t, bneI_f, hb]
theorem fixed_at (n : Int) : F_law02_fixed [.i n] = some [.i 1, .i 0, .i n] := rfl
theorem last_at (n : Int) : F_law02_last [.i n] = some [.i 2, .i n, .i 0] := rfl
theorem from_at (w n : Int) : F_law02_from [.i w, .i n] = some [.i 3, .i w, .i n] := rfl
theorem to_at (w n : Int) : F_law02_to [.i w, .i n] = some [.i 4, .i w, .i n] := rfl
theorem law_DayformRefuses {a b c t f : Int} (ha : 0 ≤ a ∧ a ≤ 255) (hb : 0 ≤ b ∧ b ≤ 255) (hc : 0 ≤ c ∧ c ≤ 255) (ht : 0 ≤ t ∧ t ≤ 255) (hf : 0 ≤ f ∧ f ≤ 4294967295) : F_law02_DayformRefuses [.i a, .i b, .i c, .i t, .i f] = some [.b true] := by
  obtain ⟨k, w, d, hm, ⟨hg⟩⟩ := made_at ha hb hc
  clear ha hb hc
  unfold F_law02_DayformRefuses
  have h8 : t % 8 = 0 ∨ t % 8 = 1 ∨ t % 8 = 2 ∨ t % 8 = 3 ∨ t % 8 = 4 ∨ t % 8 = 5 ∨ t % 8 = 6 ∨ t % 8 = 7 := by omega
  have e8 : Int.tmod t 8 = t % 8 := tmod_nn ht.1
  have ef : i64 f = f := i64_in _ (by omega)
  have e7 : Int.tmod f 7 = f % 7 := tmod_nn hf.1
  have f7 : 0 ≤ f % 7 ∧ f % 7 ≤ 6 := by omega
  generalize f % 7 = g at *
  rcases h8 with h8 | h8 | h8 | h8 | h8 | h8 | h8 | h8
  · have hB : Bad (5 + f) w d := .inr (.inl (by omega))
    clear hg
    simp (disch := omega) only [onI_c, onS_c, onB_c, onN_c, onL_c, Option.bind_some, Option.map_some, cond_true, cond_false, ↓onI_c, ↓onS_c, ↓onB_c, ↓onN_c, ↓onL_c, ↓Option.bind_some, ↓cond_true, ↓cond_false, decide_eq_true, decide_eq_false, Bool.not_true, Bool.not_false, Int.toNat_natCast, List.length_append, List.length_cons, List.length_nil, List.drop_zero, Nat.zero_add, Nat.add_zero, decT, decF, bneI_t, bneI_f, hm, e8, h8, ef, i64_in, check_bad hB, fails_bad hB, always_bad hB, fails_month, always_month, fails_year, dworks_at]
  · have hB : Bad (0 - f) w d := .inl (by omega)
    clear hg
    simp (disch := omega) only [onI_c, onS_c, onB_c, onN_c, onL_c, Option.bind_some, Option.map_some, cond_true, cond_false, ↓onI_c, ↓onS_c, ↓onB_c, ↓onN_c, ↓onL_c, ↓Option.bind_some, ↓cond_true, ↓cond_false, decide_eq_true, decide_eq_false, Bool.not_true, Bool.not_false, Int.toNat_natCast, List.length_append, List.length_cons, List.length_nil, List.drop_zero, Nat.zero_add, Nat.add_zero, decT, decF, bneI_t, bneI_f, hm, e8, h8, ef, i64_in, check_bad hB, fails_bad hB, always_bad hB, fails_month, always_month, fails_year, dworks_at, Int.reduceEq]
  · have hB : Bad 1 0 (0 - f) := by unfold Bad; omega
    clear hg
    simp (disch := omega) only [onI_c, onS_c, onB_c, onN_c, onL_c, Option.bind_some, Option.map_some, cond_true, cond_false, ↓onI_c, ↓onS_c, ↓onB_c, ↓onN_c, ↓onL_c, ↓Option.bind_some, ↓cond_true, ↓cond_false, decide_eq_true, decide_eq_false, Bool.not_true, Bool.not_false, Int.toNat_natCast, List.length_append, List.length_cons, List.length_nil, List.drop_zero, Nat.zero_add, Nat.add_zero, decT, decF, bneI_t, bneI_f, hm, e8, h8, ef, i64_in, fixed_at, check_bad hB, fails_bad hB, always_bad hB, fails_month, always_month, fails_year, dworks_at, Int.reduceEq]
  · have hB : Bad 3 g (32 + f) := by unfold Bad; omega
    clear hg
    simp (disch := omega) only [onI_c, onS_c, onB_c, onN_c, onL_c, Option.bind_some, Option.map_some, cond_true, cond_false, ↓onI_c, ↓onS_c, ↓onB_c, ↓onN_c, ↓onL_c, ↓Option.bind_some, ↓cond_true, ↓cond_false, decide_eq_true, decide_eq_false, Bool.not_true, Bool.not_false, Int.toNat_natCast, List.length_append, List.length_cons, List.length_nil, List.drop_zero, Nat.zero_add, Nat.add_zero, decT, decF, bneI_t, bneI_f, hm, e8, h8, e7, ef, i64_in, from_at, check_bad hB, fails_bad hB, always_bad hB, fails_month, always_month, fails_year, dworks_at, Int.reduceEq]
  · have hB : Bad 2 (7 + f) 0 := by unfold Bad; omega
    clear hg
    simp (disch := omega) only [onI_c, onS_c, onB_c, onN_c, onL_c, Option.bind_some, Option.map_some, cond_true, cond_false, ↓onI_c, ↓onS_c, ↓onB_c, ↓onN_c, ↓onL_c, ↓Option.bind_some, ↓cond_true, ↓cond_false, decide_eq_true, decide_eq_false, Bool.not_true, Bool.not_false, Int.toNat_natCast, List.length_append, List.length_cons, List.length_nil, List.drop_zero, Nat.zero_add, Nat.add_zero, decT, decF, bneI_t, bneI_f, hm, e8, h8, ef, i64_in, last_at, check_bad hB, fails_bad hB, always_bad hB, fails_month, always_month, fails_year, dworks_at, Int.reduceEq]
  · have hB : Bad 4 (-1 - f) 1 := by unfold Bad; omega
    clear hg
    simp (disch := omega) only [onI_c, onS_c, onB_c, onN_c, onL_c, Option.bind_some, Option.map_some, cond_true, cond_false, ↓onI_c, ↓onS_c, ↓onB_c, ↓onN_c, ↓onL_c, ↓Option.bind_some, ↓cond_true, ↓cond_false, decide_eq_true, decide_eq_false, Bool.not_true, Bool.not_false, Int.toNat_natCast, List.length_append, List.length_cons, List.length_nil, List.drop_zero, Nat.zero_add, Nat.add_zero, decT, decF, bneI_t, bneI_f, hm, e8, h8, ef, i64_in, to_at, check_bad hB, fails_bad hB, always_bad hB, fails_month, always_month, fails_year, dworks_at, Int.reduceEq]
  · have hB : Bad 1 (1 + f) 1 := by unfold Bad; omega
    clear hg
    simp (disch := omega) only [onI_c, onS_c, onB_c, onN_c, onL_c, Option.bind_some, Option.map_some, cond_true, cond_false, ↓onI_c, ↓onS_c, ↓onB_c, ↓onN_c, ↓onL_c, ↓Option.bind_some, ↓cond_true, ↓cond_false, decide_eq_true, decide_eq_false, Bool.not_true, Bool.not_false, Int.toNat_natCast, List.length_append, List.length_cons, List.length_nil, List.drop_zero, Nat.zero_add, Nat.add_zero, decT, decF, bneI_t, bneI_f, hm, e8, h8, ef, i64_in, check_bad hB, fails_bad hB, always_bad hB, fails_month, always_month, fails_year, dworks_at, Int.reduceEq]
  · have hB : Bad 2 0 (1 + f) := by unfold Bad; omega
    clear hg
    simp (disch := omega) only [onI_c, onS_c, onB_c, onN_c, onL_c, Option.bind_some, Option.map_some, cond_true, cond_false, ↓onI_c, ↓onS_c, ↓onB_c, ↓onN_c, ↓onL_c, ↓Option.bind_some, ↓cond_true, ↓cond_false, decide_eq_true, decide_eq_false, Bool.not_true, Bool.not_false, Int.toNat_natCast, List.length_append, List.length_cons, List.length_nil, List.drop_zero, Nat.zero_add, Nat.add_zero, decT, decF, bneI_t, bneI_f, hm, e8, h8, ef, i64_in, check_bad hB, fails_bad hB, always_bad hB, fails_month, always_month, fails_year, dworks_at, Int.reduceEq]
theorem lawP_DayformRefuses {dats : List Dat} (h : DatOk tau [.int .u8, .int .u8, .int .u8, .int .u8, .int .u32] dats) : F_law02_DayformRefuses dats = some [.b true] := by
  obtain ⟨a, r, rfl, ha, b, r, rfl, hb, c, r, rfl, hc, t, r, rfl, ht, f, r, rfl, hf, rfl⟩ := h
  exact law_DayformRefuses (wf_u8 ha) (wf_u8 hb) (wf_u8 hc) (wf_u8 ht) (wf_u32 hf)
end Go.Proofs.YtljbgkfoljjgbaaDoor
