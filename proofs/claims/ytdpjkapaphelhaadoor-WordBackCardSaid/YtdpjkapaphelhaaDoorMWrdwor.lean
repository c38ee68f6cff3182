/-
  Words: short ones.
-/
import Derived.Test.YtdpjkapaphelhaaDoorFwor
import Derived.Test.YtdpjkapaphelhaaDoorAxT
import Derived.Test.YtdpjkapaphelhaaDoorAx32
namespace Go.Proofs.YtdpjkapaphelhaaDoor
open Go.Ax Go.Lib
set_option linter.all false
set_option maxHeartbeats 4000000
set_option maxRecDepth 100000
attribute [local congr] cond_cong bind_cong onI_cong onB_cong onS_cong onN_cong onL_cong

theorem wworks_at : F_law08_works [] = some [.b true] := rfl
theorem mtext_out {n : Int} (h : -9223372036854775808 ≤ n ∧ n ≤ 9223372036854775807) (ho : n < 1 ∨ 12 < n) : F_word_MonthText [.i n] = some [.s []] := by
  have e : i64 (n - 1) < 0 ∨ 12 ≤ i64 (n - 1) := by rw [i64_eq]; omega
  unfold F_word_MonthText F_word_short
  generalize hi : i64 (n - 1) = i at *
  rcases e with e | e
  · simp (disch := omega) only [onI_c, onS_c, onB_c, onN_c, onL_c, Option.bind_some, Option.map_some, cond_true, cond_false, ↓onI_c, ↓onS_c, ↓onB_c, ↓onN_c, ↓onL_c, ↓Option.bind_some, ↓cond_true, ↓cond_false, decide_eq_true, decide_eq_false, Bool.not_true, Bool.not_false, Int.toNat_natCast, List.length_append, List.length_cons, List.length_nil, List.drop_zero, Nat.zero_add, Nat.add_zero, decT, decF, bneI_t, bneI_f, hi]
  · by_cases e0 : i < 0
    · omega
    · simp (disch := omega) only [onI_c, onS_c, onB_c, onN_c, onL_c, Option.bind_some, Option.map_some, cond_true, cond_false, ↓onI_c, ↓onS_c, ↓onB_c, ↓onN_c, ↓onL_c, ↓Option.bind_some, ↓cond_true, ↓cond_false, decide_eq_true, decide_eq_false, Bool.not_true, Bool.not_false, Int.toNat_natCast, List.length_append, List.length_cons, List.length_nil, List.drop_zero, Nat.zero_add, Nat.add_zero, decT, decF, bneI_t, bneI_f, hi]
theorem rmtext_out {n : Int} (ho : n < 1 ∨ 12 < n) : F_ref08_MonthText [.i n] = some [.s []] := by
  unfold F_ref08_MonthText
  by_cases e : n < 1
  · simp (disch := omega) only [onI_c, onS_c, onB_c, onN_c, onL_c, Option.bind_some, Option.map_some, cond_true, cond_false, ↓onI_c, ↓onS_c, ↓onB_c, ↓onN_c, ↓onL_c, ↓Option.bind_some, ↓cond_true, ↓cond_false, decide_eq_true, decide_eq_false, Bool.not_true, Bool.not_false, Int.toNat_natCast, List.length_append, List.length_cons, List.length_nil, List.drop_zero, Nat.zero_add, Nat.add_zero, decT, decF, bneI_t, bneI_f]
  · simp (disch := omega) only [onI_c, onS_c, onB_c, onN_c, onL_c, Option.bind_some, Option.map_some, cond_true, cond_false, ↓onI_c, ↓onS_c, ↓onB_c, ↓onN_c, ↓onL_c, ↓Option.bind_some, ↓cond_true, ↓cond_false, decide_eq_true, decide_eq_false, Bool.not_true, Bool.not_false, Int.toNat_natCast, List.length_append, List.length_cons, List.length_nil, List.drop_zero, Nat.zero_add, Nat.add_zero, decT, decF, bneI_t, bneI_f]
theorem wtext_out {n : Int} (ho : n < 0 ∨ 6 < n) : F_word_WeekText [.i n] = some [.s []] := by
  by_cases e : n < 0
  · unfold F_word_WeekText F_word_short
    simp (disch := omega) only [onI_c, onS_c, onB_c, onN_c, onL_c, Option.bind_some, Option.map_some, cond_true, cond_false, ↓onI_c, ↓onS_c, ↓onB_c, ↓onN_c, ↓onL_c, ↓Option.bind_some, ↓cond_true, ↓cond_false, decide_eq_true, decide_eq_false, Bool.not_true, Bool.not_false, Int.toNat_natCast, List.length_append, List.length_cons, List.length_nil, List.drop_zero, Nat.zero_add, Nat.add_zero, decT, decF, bneI_t, bneI_f]
  · by_cases e2 : 12 ≤ n
    · unfold F_word_WeekText F_word_short
      simp (disch := omega) only [onI_c, onS_c, onB_c, onN_c, onL_c, Option.bind_some, Option.map_some, cond_true, cond_false, ↓onI_c, ↓onS_c, ↓onB_c, ↓onN_c, ↓onL_c, ↓Option.bind_some, ↓cond_true, ↓cond_false, decide_eq_true, decide_eq_false, Bool.not_true, Bool.not_false, Int.toNat_natCast, List.length_append, List.length_cons, List.length_nil, List.drop_zero, Nat.zero_add, Nat.add_zero, decT, decF, bneI_t, bneI_f]
    · have h : n = 7 ∨ n = 8 ∨ n = 9 ∨ n = 10 ∨ n = 11 := by omega
      rcases h with rfl | rfl | rfl | rfl | rfl <;> rfl
theorem rwtext_out {n : Int} (ho : n < 0 ∨ 6 < n) : F_ref08_WeekText [.i n] = some [.s []] := by
  unfold F_ref08_WeekText
  by_cases e : n < 0
  · simp (disch := omega) only [onI_c, onS_c, onB_c, onN_c, onL_c, Option.bind_some, Option.map_some, cond_true, cond_false, ↓onI_c, ↓onS_c, ↓onB_c, ↓onN_c, ↓onL_c, ↓Option.bind_some, ↓cond_true, ↓cond_false, decide_eq_true, decide_eq_false, Bool.not_true, Bool.not_false, Int.toNat_natCast, List.length_append, List.length_cons, List.length_nil, List.drop_zero, Nat.zero_add, Nat.add_zero, decT, decF, bneI_t, bneI_f]
  · simp (disch := omega) only [onI_c, onS_c, onB_c, onN_c, onL_c, Option.bind_some, Option.map_some, cond_true, cond_false, ↓onI_c, ↓onS_c, ↓onB_c, ↓onN_c, ↓onL_c, ↓Option.bind_some, ↓cond_true, ↓cond_false, decide_eq_true, decide_eq_false, Bool.not_true, Bool.not_false, Int.toNat_natCast, List.length_append, List.length_cons, List.length_nil, List.drop_zero, Nat.zero_add, Nat.add_zero, decT, decF, bneI_t, bneI_f]
theorem mtext_same {n : Int} (h : -9223372036854775808 ≤ n ∧ n ≤ 9223372036854775807) : ∃ t, F_word_MonthText [.i n] = some [.s t] ∧ F_ref08_MonthText [.i n] = some [.s t] := by
  by_cases ho : n < 1 ∨ 12 < n
  · exact ⟨_, mtext_out h ho, rmtext_out ho⟩
  · have h : n = 1 ∨ n = 2 ∨ n = 3 ∨ n = 4 ∨ n = 5 ∨ n = 6 ∨ n = 7 ∨ n = 8 ∨ n = 9 ∨ n = 10 ∨ n = 11 ∨ n = 12 := by omega
    rcases h with rfl | rfl | rfl | rfl | rfl | rfl | rfl | rfl | rfl | rfl | rfl | rfl
    · exact ⟨[74, 97, 110], by rfl, by rfl⟩
    · exact ⟨[70, 101, 98], by rfl, by rfl⟩
    · exact ⟨[77, 97, 114], by rfl, by rfl⟩
    · exact ⟨[65, 112, 114], by rfl, by rfl⟩
    · exact ⟨[77, 97, 121], by rfl, by rfl⟩
    · exact ⟨[74, 117, 110], by rfl, by rfl⟩
    · exact ⟨[74, 117, 108], by rfl, by rfl⟩
    · exact ⟨[65, 117, 103], by rfl, by rfl⟩
    · exact ⟨[83, 101, 112], by rfl, by rfl⟩
    · exact ⟨[79, 99, 116], by rfl, by rfl⟩
    · exact ⟨[78, 111, 118], by rfl, by rfl⟩
    · exact ⟨[68, 101, 99], by rfl, by rfl⟩
theorem wtext_same (n : Int) : ∃ t, F_word_WeekText [.i n] = some [.s t] ∧ F_ref08_WeekText [.i n] = some [.s t] := by
  by_cases ho : n < 0 ∨ 6 < n
  · exact ⟨_, wtext_out ho, rwtext_out ho⟩
  · have h : n = 0 ∨ n = 1 ∨ n = 2 ∨ n = 3 ∨ n = 4 ∨ n = 5 ∨ n = 6 := by omega
    rcases h with rfl | rfl | rfl | rfl | rfl | rfl | rfl
    · exact ⟨[83, 117, 110], by rfl, by rfl⟩
    · exact ⟨[77, 111, 110], by rfl, by rfl⟩
    · exact ⟨[84, 117, 101], by rfl, by rfl⟩
    · exact ⟨[87, 101, 100], by rfl, by rfl⟩
    · exact ⟨[84, 104, 117], by rfl, by rfl⟩
    · exact ⟨[70, 114, 105], by rfl, by rfl⟩
    · exact ⟨[83, 97, 116], by rfl, by rfl⟩
theorem eq_str (t : List UInt8) : (t == t) = true := beq_self_eq_true t
theorem lawP_WordTexts {dats : List Dat} (h : DatOk tau [.int .i64] dats) : F_law08_WordTexts dats = some [.b true] := by
  obtain ⟨n, r, rfl, hn, rfl⟩ := h
  obtain ⟨t, m1, m2⟩ := mtext_same (wf_i64 hn)
  obtain ⟨u, w1, w2⟩ := wtext_same n
  have q1 := eq_str t
  have q2 := eq_str u
  unfold F_law08_WordTexts
  simp only [onI_c, onS_c, onB_c, onN_c, onL_c, Option.bind_some, Option.map_some, cond_true, cond_false, ↓onI_c, ↓onS_c, ↓onB_c, ↓onN_c, ↓onL_c, ↓Option.bind_some, ↓cond_true, ↓cond_false, decide_eq_true, decide_eq_false, Bool.not_true, Bool.not_false, Int.toNat_natCast, List.length_append, List.length_cons, List.length_nil, List.drop_zero, Nat.zero_add, Nat.add_zero, decT, decF, bneI_t, bneI_f, m1, m2, w1, w2, q1, q2, wworks_at]
theorem lawP_WordNumbers {dats : List Dat} (h : DatOk tau [.int .u32] dats) : F_law08_WordNumbers dats = some [.b true] := by
  obtain ⟨n, r, rfl, hn, rfl⟩ := h
  have hn := wf_u32 hn
  have e0 := i64_in n (by omega)
  have e1 := i64_in (0 - n) (by omega)
  have e2 := i64_in (13 + n) (by omega)
  have e3 := i64_in (-1 - n) (by omega)
  have e4 := i64_in (7 + n) (by omega)
  have m1 := mtext_out (n := 0 - n) (by omega) (by omega)
  have m2 := mtext_out (n := 13 + n) (by omega) (by omega)
  have m3 := wtext_out (n := -1 - n) (by omega)
  have m4 := wtext_out (n := 7 + n) (by omega)
  have q1 := eq_str []
  unfold F_law08_WordNumbers
  simp only [onI_c, onS_c, onB_c, onN_c, onL_c, Option.bind_some, Option.map_some, cond_true, cond_false, ↓onI_c, ↓onS_c, ↓onB_c, ↓onN_c, ↓onL_c, ↓Option.bind_some, ↓cond_true, ↓cond_false, decide_eq_true, decide_eq_false, Bool.not_true, Bool.not_false, Int.toNat_natCast, List.length_append, List.length_cons, List.length_nil, List.drop_zero, Nat.zero_add, Nat.add_zero, decT, decF, bneI_t, bneI_f, e0, e1, e2, e3, e4, m1, m2, m3, m4, q1, wworks_at]
end Go.Proofs.YtdpjkapaphelhaaDoor
