/-
  Numeric abbreviations: any offsets and strings; numbers are read back.
-/
import Derived.Test.YtnfgmffcnmifkaaMRefnum
import Derived.Test.YtnfgmffcnmifkaaAxT
namespace Go.Proofs.Ytnfgmffcnmifkaa
open Go.Ax
set_option linter.all false
set_option maxHeartbeats 8000000
attribute [local congr] cond_cong bind_cong onI_cong onB_cong onS_cong onN_cong onL_cong

theorem works_at : F_law20_works [] = some [.b true] := rfl
theorem lawP_NumericTexts {dats : List Dat} (h : DatOk tau [.int .i64, .string] dats) : F_law20_NumericTexts dats = some [.b true] := by
  obtain ⟨x, r, rfl, hx, s, r, rfl, hs, rfl⟩ := h
  have hx := wf_i64 hx
  unfold F_law20_NumericTexts
  have t1 := text_at (x := x) (by omega)
  have t2 := rtext_at (x := x) (by omega)
  by_cases hl : 100 < s.length
  · simp (disch := omega) only [onI_c, onS_c, onB_c, onN_c, onL_c, Option.bind_some, Option.map_some, cond_true, cond_false, ↓onI_c, ↓onS_c, ↓onB_c, ↓onN_c, ↓onL_c, ↓Option.bind_some, ↓cond_true, ↓cond_false, decide_eq_true, decide_eq_false, Bool.not_true, Bool.not_false, Int.toNat_natCast, List.length_append, List.length_cons, List.length_nil, List.drop_zero, Nat.zero_add, Nat.add_zero, decT, decF, bneI_t, bneI_f, works_at]
  · obtain ⟨a, b, p1, p2⟩ : ∃ a b, F_numeric_Parse [.s s] = some [.i a, .i b] ∧ F_ref20_Parse [.s s] = some [.i a, .i b] := by
      by_cases q : ∃ y, (-86399 ≤ y ∧ y ≤ 86399) ∧ NT y = s
      · obtain ⟨y, hy, rfl⟩ := q
        exact ⟨_, _, parse_NT hy, rparse_NT hy⟩
      · have q' : ∀ y, -86399 ≤ y ∧ y ≤ 86399 → NT y ≠ s := fun y hy e => q ⟨y, hy, e⟩
        exact ⟨_, _, parse_no (by omega) q', rparse_no (by omega) q'⟩
    simp (disch := omega) only [onI_c, onS_c, onB_c, onN_c, onL_c, Option.bind_some, Option.map_some, cond_true, cond_false, ↓onI_c, ↓onS_c, ↓onB_c, ↓onN_c, ↓onL_c, ↓Option.bind_some, ↓cond_true, ↓cond_false, decide_eq_true, decide_eq_false, Bool.not_true, Bool.not_false, Int.toNat_natCast, List.length_append, List.length_cons, List.length_nil, List.drop_zero, Nat.zero_add, Nat.add_zero, decT, decF, bneI_t, bneI_f, t1, t2, p1, p2, works_at, beq_self_eq_true]
theorem lawP_NumericBack {dats : List Dat} (h : DatOk tau [.int .u32, .int .u32] dats) : F_law20_NumericBack dats = some [.b true] := by
  obtain ⟨m, r, rfl, hm, n, r, rfl, hn, rfl⟩ := h
  have hm := wf_u32 hm
  have hn := wf_u32 hn
  have e1 : i64 (Int.tmod m 86400) = m % 86400 := by rw [tmod_nn (by omega), i64_in _ (by omega)]
  have e2 : i64 (Int.tmod n 86400) = n % 86400 := by rw [tmod_nn (by omega), i64_in _ (by omega)]
  have bx : 0 ≤ m % 86400 ∧ m % 86400 ≤ 86399 := by omega
  have by_ : 0 ≤ n % 86400 ∧ n % 86400 ≤ 86399 := by omega
  unfold F_law20_NumericBack
  simp only [onI_c, e1, e2]
  clear e1 e2
  generalize m % 86400 = x at *
  generalize n % 86400 = y at *
  clear hm hn
  have e3 : i64 (0 - x) = -x := by rw [i64_in _ (by omega)]; omega
  have t1 := text_at (x := x) (by omega)
  have t2 := text_at (x := y) (by omega)
  have t3 := text_at (x := -x) (by omega)
  have p1 := parse_NT (x := x) (by omega)
  have p2 := parse_NT (x := -x) (by omega)
  have hodd := (NT_back (x := x) (by omega)).1
  have hinj : NT x = NT y ↔ x = y := ⟨fun e => NT_inj (by omega) e, fun e => by rw [e]⟩
  have hpos := NT_pos bx
  have g0 : (((List.getD (NT x) 0 0).toNat : Nat) : Int) = 43 := by rw [hpos]; rfl
  by_cases hx0 : x = 0
  · have hz : NT (-x) = NT x := by rw [hx0]; rfl
    rw [hz] at t3
    have q3 : (NT x == NT x) = true := beq_self_eq_true _
    unfold odd at hodd
    generalize NT x = s at *
    clear hpos p2
    by_cases hxy : x = y
    · have := hinj.2 hxy
      have q := beq_t this
      clear hinj
      rcases hodd with hodd | hodd | hodd <;>
      simp (disch := omega) only [onI_c, onS_c, onB_c, onN_c, onL_c, Option.bind_some, Option.map_some, cond_true, cond_false, ↓onI_c, ↓onS_c, ↓onB_c, ↓onN_c, ↓onL_c, ↓Option.bind_some, ↓cond_true, ↓cond_false, decide_eq_true, decide_eq_false, Bool.not_true, Bool.not_false, Int.toNat_natCast, List.length_append, List.length_cons, List.length_nil, List.drop_zero, Nat.zero_add, Nat.add_zero, decT, decF, bneI_t, bneI_f, t1, t2, p1, e3, t3, q, g0, q3, works_at, hodd, Nat.reduceSubDiff]
    · have := fun e => hxy (hinj.1 e)
      have q := beq_f this
      clear hinj
      rcases hodd with hodd | hodd | hodd <;>
      simp (disch := omega) only [onI_c, onS_c, onB_c, onN_c, onL_c, Option.bind_some, Option.map_some, cond_true, cond_false, ↓onI_c, ↓onS_c, ↓onB_c, ↓onN_c, ↓onL_c, ↓Option.bind_some, ↓cond_true, ↓cond_false, decide_eq_true, decide_eq_false, Bool.not_true, Bool.not_false, Int.toNat_natCast, List.length_append, List.length_cons, List.length_nil, List.drop_zero, Nat.zero_add, Nat.add_zero, decT, decF, bneI_t, bneI_f, t1, t2, p1, e3, t3, q, g0, q3, works_at, hodd]
  · have hneg := NT_neg (n := x) (by omega)
    have g1 : (((List.getD (NT (-x)) 0 0).toNat : Nat) : Int) = 45 := by rw [hneg]; rfl
    have hl2 : (NT (-x)).length = (NT x).length := by rw [hneg, hpos]; rfl
    have hd : (List.take ((NT (-x)).length - 1) (List.drop 1 (NT (-x))) == List.take ((NT x).length - 1) (List.drop 1 (NT x))) = true := by
      rw [hl2, hneg, hpos]; exact beq_self_eq_true _
    unfold odd at hodd
    generalize NT x = s at *
    generalize NT (-x) = w at *
    clear hpos hneg
    rw [hl2] at hd
    by_cases hxy : x = y
    · have := hinj.2 hxy
      have q := beq_t this
      clear hinj
      rcases hodd with hodd | hodd | hodd <;>
      simp (disch := omega) only [onI_c, onS_c, onB_c, onN_c, onL_c, Option.bind_some, Option.map_some, cond_true, cond_false, ↓onI_c, ↓onS_c, ↓onB_c, ↓onN_c, ↓onL_c, ↓Option.bind_some, ↓cond_true, ↓cond_false, decide_eq_true, decide_eq_false, Bool.not_true, Bool.not_false, Int.toNat_natCast, List.length_append, List.length_cons, List.length_nil, List.drop_zero, Nat.zero_add, Nat.add_zero, decT, decF, bneI_t, bneI_f, t1, t2, p1, p2, e3, t3, q, g0, g1, works_at, hodd, hl2, hd] <;> (rw [hodd] at hd; simp (disch := omega) only [onI_c, onS_c, onB_c, onN_c, onL_c, Option.bind_some, Option.map_some, cond_true, cond_false, ↓onI_c, ↓onS_c, ↓onB_c, ↓onN_c, ↓onL_c, ↓Option.bind_some, ↓cond_true, ↓cond_false, decide_eq_true, decide_eq_false, Bool.not_true, Bool.not_false, Int.toNat_natCast, List.length_append, List.length_cons, List.length_nil, List.drop_zero, Nat.zero_add, Nat.add_zero, decT, decF, bneI_t, bneI_f, hd, works_at])
    · have := fun e => hxy (hinj.1 e)
      have q := beq_f this
      clear hinj
      rcases hodd with hodd | hodd | hodd <;>
      simp (disch := omega) only [onI_c, onS_c, onB_c, onN_c, onL_c, Option.bind_some, Option.map_some, cond_true, cond_false, ↓onI_c, ↓onS_c, ↓onB_c, ↓onN_c, ↓onL_c, ↓Option.bind_some, ↓cond_true, ↓cond_false, decide_eq_true, decide_eq_false, Bool.not_true, Bool.not_false, Int.toNat_natCast, List.length_append, List.length_cons, List.length_nil, List.drop_zero, Nat.zero_add, Nat.add_zero, decT, decF, bneI_t, bneI_f, t1, t2, p1, p2, e3, t3, q, g0, g1, works_at, hodd, hl2, hd] <;> (rw [hodd] at hd; simp (disch := omega) only [onI_c, onS_c, onB_c, onN_c, onL_c, Option.bind_some, Option.map_some, cond_true, cond_false, ↓onI_c, ↓onS_c, ↓onB_c, ↓onN_c, ↓onL_c, ↓Option.bind_some, ↓cond_true, ↓cond_false, decide_eq_true, decide_eq_false, Bool.not_true, Bool.not_false, Int.toNat_natCast, List.length_append, List.length_cons, List.length_nil, List.drop_zero, Nat.zero_add, Nat.add_zero, decT, decF, bneI_t, bneI_f, hd, works_at])
end Go.Proofs.Ytnfgmffcnmifkaa
