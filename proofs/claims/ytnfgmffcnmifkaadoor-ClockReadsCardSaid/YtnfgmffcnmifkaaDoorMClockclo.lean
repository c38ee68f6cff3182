/-
  Times of day.
-/
import Derived.Test.YtnfgmffcnmifkaaDoorMRefclo
import Derived.Test.YtnfgmffcnmifkaaDoorAxT
namespace Go.Proofs.YtnfgmffcnmifkaaDoor
open Go.Ax Go.Lib
set_option linter.all false
set_option maxHeartbeats 8000000
attribute [local congr] cond_cong bind_cong onI_cong onB_cong onS_cong onN_cong onL_cong

theorem cworks_at : F_law06_works [] = some [.b true] := rfl
def lastI (s : List UInt8) : Int := ((s.getD (s.length - 1) 0).toNat : Nat)
def cres (p : Int × Int) (b : Int) : List Dat := if p.2 = 0 then [.i p.1, .i b, .i 0] else [.i 0, .i 0, .i p.2]
/-- What a string means. -/
def cparse (s : List UInt8) : List Dat := if s = [] then cres (pparse s) 0 else if isLetter (lastI s) = true then cres (pparse (s.take (s.length - 1))) (letterBase (lastI s)) else cres (pparse s) 0
theorem cres_s (p : Int × Int) (b : Int) : ∃ x y z, cres p b = [.i x, .i y, .i z] := by unfold cres; split <;> exact ⟨_, _, _, rfl⟩
theorem cparse_s (s : List UInt8) : ∃ x y z, cparse s = [.i x, .i y, .i z] := by
  unfold cparse
  split
  · exact cres_s _ _
  · split <;> exact cres_s _ _
theorem last_rng (s : List UInt8) : 0 ≤ lastI s ∧ lastI s ≤ 255 := by
  have := (s.getD (s.length - 1) 0).toNat_lt
  unfold lastI; omega
theorem find_at {b : Int} (h : 0 ≤ b ∧ b ≤ 255) : clockFind [.i b] = some [.i (letterBase b), .b (isLetter b)] := by
  unfold clockFind; simp only [onI_c]; rw [if_pos h]
theorem cparse_at {s : List UInt8} (hs : s.length < 4611686018427387904) : F_clock_Parse [.s s] = some (cparse s) := by
  unfold F_clock_Parse cparse cres
  have p0 := parse_at hs
  by_cases h0 : s = []
  · rw [if_pos h0]
    have hq := beq_t h0
    by_cases he : (pparse s).2 = 0
    · rw [if_pos he]
      simp (disch := omega) only [onI_c, onS_c, onB_c, onN_c, onL_c, Option.bind_some, Option.map_some, cond_true, cond_false, ↓onI_c, ↓onS_c, ↓onB_c, ↓onN_c, ↓onL_c, ↓Option.bind_some, ↓cond_true, ↓cond_false, decide_eq_true, decide_eq_false, Bool.not_true, Bool.not_false, Int.toNat_natCast, List.length_append, List.length_cons, List.length_nil, List.drop_zero, Nat.zero_add, Nat.add_zero, decT, decF, bneI_t, bneI_f, hq, p0, he]
    · rw [if_neg he]
      simp (disch := omega) only [onI_c, onS_c, onB_c, onN_c, onL_c, Option.bind_some, Option.map_some, cond_true, cond_false, ↓onI_c, ↓onS_c, ↓onB_c, ↓onN_c, ↓onL_c, ↓Option.bind_some, ↓cond_true, ↓cond_false, decide_eq_true, decide_eq_false, Bool.not_true, Bool.not_false, Int.toNat_natCast, List.length_append, List.length_cons, List.length_nil, List.drop_zero, Nat.zero_add, Nat.add_zero, decT, decF, bneI_t, bneI_f, hq, p0, he]
  · rw [if_neg h0]
    have hq := beq_f h0
    have hl : 1 ≤ s.length := by cases s with | nil => exact absurd rfl h0 | cons => simp
    have e1 : i64 ((((s).length : Nat) : Int) - 1) = ((s.length - 1 : Nat) : Int) := by rw [i64_in _ (by omega)]; omega
    have ef := find_at (last_rng s)
    unfold lastI at ef
    have p1 := parse_at (s := s.take (s.length - 1)) (by rw [List.length_take]; omega)
    generalize hw : s.take (s.length - 1) = w at *
    have hw0 : List.take (s.length - 1) s = w := hw
    unfold lastI
    generalize hcd : ((s.getD (s.length - 1) 0).toNat : Int) = c at *
    cases hc : isLetter c with
    | true =>
      rw [if_pos rfl]
      rw [hc] at ef
      by_cases he : (pparse w).2 = 0
      · rw [if_pos he]
        simp (disch := omega) only [onI_c, onS_c, onB_c, onN_c, onL_c, Option.bind_some, Option.map_some, cond_true, cond_false, ↓onI_c, ↓onS_c, ↓onB_c, ↓onN_c, ↓onL_c, ↓Option.bind_some, ↓cond_true, ↓cond_false, decide_eq_true, decide_eq_false, Bool.not_true, Bool.not_false, Int.toNat_natCast, List.length_append, List.length_cons, List.length_nil, List.drop_zero, Nat.zero_add, Nat.add_zero, decT, decF, bneI_t, bneI_f, hq, e1, hcd, ef, hw0, p1, he]
      · rw [if_neg he]
        simp (disch := omega) only [onI_c, onS_c, onB_c, onN_c, onL_c, Option.bind_some, Option.map_some, cond_true, cond_false, ↓onI_c, ↓onS_c, ↓onB_c, ↓onN_c, ↓onL_c, ↓Option.bind_some, ↓cond_true, ↓cond_false, decide_eq_true, decide_eq_false, Bool.not_true, Bool.not_false, Int.toNat_natCast, List.length_append, List.length_cons, List.length_nil, List.drop_zero, Nat.zero_add, Nat.add_zero, decT, decF, bneI_t, bneI_f, hq, e1, hcd, ef, hw0, p1, he]
    | false =>
      rw [if_neg (by simp)]
      rw [hc] at ef
      by_cases he : (pparse s).2 = 0
      · rw [if_pos he]
        simp (disch := omega) only [onI_c, onS_c, onB_c, onN_c, onL_c, Option.bind_some, Option.map_some, cond_true, cond_false, ↓onI_c, ↓onS_c, ↓onB_c, ↓onN_c, ↓onL_c, ↓Option.bind_some, ↓cond_true, ↓cond_false, decide_eq_true, decide_eq_false, Bool.not_true, Bool.not_false, Int.toNat_natCast, List.length_append, List.length_cons, List.length_nil, List.drop_zero, Nat.zero_add, Nat.add_zero, decT, decF, bneI_t, bneI_f, hq, e1, hcd, ef, p0, he]
      · rw [if_neg he]
        simp (disch := omega) only [onI_c, onS_c, onB_c, onN_c, onL_c, Option.bind_some, Option.map_some, cond_true, cond_false, ↓onI_c, ↓onS_c, ↓onB_c, ↓onN_c, ↓onL_c, ↓Option.bind_some, ↓cond_true, ↓cond_false, decide_eq_true, decide_eq_false, Bool.not_true, Bool.not_false, Int.toNat_natCast, List.length_append, List.length_cons, List.length_nil, List.drop_zero, Nat.zero_add, Nat.add_zero, decT, decF, bneI_t, bneI_f, hq, e1, hcd, ef, p0, he]
theorem base_at (c : Int) : F_ref06_base [.i c] = some [.i (if isLetter c = true then letterBase c else -1)] := by
  unfold F_ref06_base isLetter letterBase
  by_cases n1 : c = 119
  · simp (disch := omega) only [onI_c, onS_c, onB_c, onN_c, onL_c, Option.bind_some, Option.map_some, cond_true, cond_false, ↓onI_c, ↓onS_c, ↓onB_c, ↓onN_c, ↓onL_c, ↓Option.bind_some, ↓cond_true, ↓cond_false, decide_eq_true, decide_eq_false, Bool.not_true, Bool.not_false, Int.toNat_natCast, List.length_append, List.length_cons, List.length_nil, List.drop_zero, Nat.zero_add, Nat.add_zero, decT, decF, bneI_t, bneI_f, n1, if_true, true_or]
  by_cases n2 : c = 115
  · simp (disch := omega) only [onI_c, onS_c, onB_c, onN_c, onL_c, Option.bind_some, Option.map_some, cond_true, cond_false, ↓onI_c, ↓onS_c, ↓onB_c, ↓onN_c, ↓onL_c, ↓Option.bind_some, ↓cond_true, ↓cond_false, decide_eq_true, decide_eq_false, Bool.not_true, Bool.not_false, Int.toNat_natCast, List.length_append, List.length_cons, List.length_nil, List.drop_zero, Nat.zero_add, Nat.add_zero, decT, decF, bneI_t, bneI_f, n1, n2, if_true, if_false, true_or, or_true, Int.reduceEq]
  by_cases n5 : c = 117
  · simp (disch := omega) only [onI_c, onS_c, onB_c, onN_c, onL_c, Option.bind_some, Option.map_some, cond_true, cond_false, ↓onI_c, ↓onS_c, ↓onB_c, ↓onN_c, ↓onL_c, ↓Option.bind_some, ↓cond_true, ↓cond_false, decide_eq_true, decide_eq_false, Bool.not_true, Bool.not_false, Int.toNat_natCast, List.length_append, List.length_cons, List.length_nil, List.drop_zero, Nat.zero_add, Nat.add_zero, decT, decF, bneI_t, bneI_f, n1, n2, n5, if_true, if_false, true_or, or_true, Int.reduceEq]
  by_cases n3 : c = 103
  · simp (disch := omega) only [onI_c, onS_c, onB_c, onN_c, onL_c, Option.bind_some, Option.map_some, cond_true, cond_false, ↓onI_c, ↓onS_c, ↓onB_c, ↓onN_c, ↓onL_c, ↓Option.bind_some, ↓cond_true, ↓cond_false, decide_eq_true, decide_eq_false, Bool.not_true, Bool.not_false, Int.toNat_natCast, List.length_append, List.length_cons, List.length_nil, List.drop_zero, Nat.zero_add, Nat.add_zero, decT, decF, bneI_t, bneI_f, n1, n2, n3, n5, if_true, if_false, true_or, or_true, Int.reduceEq]
  by_cases n4 : c = 122
  · simp (disch := omega) only [onI_c, onS_c, onB_c, onN_c, onL_c, Option.bind_some, Option.map_some, cond_true, cond_false, ↓onI_c, ↓onS_c, ↓onB_c, ↓onN_c, ↓onL_c, ↓Option.bind_some, ↓cond_true, ↓cond_false, decide_eq_true, decide_eq_false, Bool.not_true, Bool.not_false, Int.toNat_natCast, List.length_append, List.length_cons, List.length_nil, List.drop_zero, Nat.zero_add, Nat.add_zero, decT, decF, bneI_t, bneI_f, n1, n2, n3, n4, n5, if_true, if_false, true_or, or_true, Int.reduceEq]
  simp (disch := omega) only [onI_c, onS_c, onB_c, onN_c, onL_c, Option.bind_some, Option.map_some, cond_true, cond_false, ↓onI_c, ↓onS_c, ↓onB_c, ↓onN_c, ↓onL_c, ↓Option.bind_some, ↓cond_true, ↓cond_false, decide_eq_true, decide_eq_false, Bool.not_true, Bool.not_false, Int.toNat_natCast, List.length_append, List.length_cons, List.length_nil, List.drop_zero, Nat.zero_add, Nat.add_zero, decT, decF, bneI_t, bneI_f, n1, n2, n3, n4, n5, if_true, if_false, or_self, Bool.false_eq_true]
theorem letterBase_rng (c : Int) : 0 ≤ letterBase c ∧ letterBase c ≤ 2 := by unfold letterBase; repeat' split <;> omega
theorem rcparse_at {s : List UInt8} (hs : s.length < 4611686018427387904) : F_ref06_Parse [.s s] = some (cparse s) := by
  unfold F_ref06_Parse cparse cres
  have p0 := refParse_at hs
  by_cases h0 : s = []
  · rw [if_pos h0]
    have hl : s.length = 0 := by rw [h0]; rfl
    by_cases he : (pparse s).2 = 0
    · rw [if_pos he]
      simp (disch := omega) only [onI_c, onS_c, onB_c, onN_c, onL_c, Option.bind_some, Option.map_some, cond_true, cond_false, ↓onI_c, ↓onS_c, ↓onB_c, ↓onN_c, ↓onL_c, ↓Option.bind_some, ↓cond_true, ↓cond_false, decide_eq_true, decide_eq_false, Bool.not_true, Bool.not_false, Int.toNat_natCast, List.length_append, List.length_cons, List.length_nil, List.drop_zero, Nat.zero_add, Nat.add_zero, decT, decF, bneI_t, bneI_f, hl, p0, he]
    · rw [if_neg he]
      simp (disch := omega) only [onI_c, onS_c, onB_c, onN_c, onL_c, Option.bind_some, Option.map_some, cond_true, cond_false, ↓onI_c, ↓onS_c, ↓onB_c, ↓onN_c, ↓onL_c, ↓Option.bind_some, ↓cond_true, ↓cond_false, decide_eq_true, decide_eq_false, Bool.not_true, Bool.not_false, Int.toNat_natCast, List.length_append, List.length_cons, List.length_nil, List.drop_zero, Nat.zero_add, Nat.add_zero, decT, decF, bneI_t, bneI_f, hl, p0, he]
  · rw [if_neg h0]
    have hl : 1 ≤ s.length := by cases s with | nil => exact absurd rfl h0 | cons => simp
    have e1 : i64 ((((s).length : Nat) : Int) - 1) = ((s.length - 1 : Nat) : Int) := by rw [i64_in _ (by omega)]; omega
    have ef := base_at (lastI s)
    have hr := letterBase_rng (lastI s)
    unfold lastI at ef hr
    have p1 := refParse_at (s := s.take (s.length - 1)) (by rw [List.length_take]; omega)
    generalize hw : s.take (s.length - 1) = w at *
    have hw0 : List.take (s.length - 1) s = w := hw
    unfold lastI
    generalize hcd : ((s.getD (s.length - 1) 0).toNat : Int) = c at *
    cases hc : isLetter c with
    | true =>
      rw [if_pos rfl]
      rw [hc, if_pos rfl] at ef
      by_cases he : (pparse w).2 = 0
      · rw [if_pos he]
        simp (disch := omega) only [onI_c, onS_c, onB_c, onN_c, onL_c, Option.bind_some, Option.map_some, cond_true, cond_false, ↓onI_c, ↓onS_c, ↓onB_c, ↓onN_c, ↓onL_c, ↓Option.bind_some, ↓cond_true, ↓cond_false, decide_eq_true, decide_eq_false, Bool.not_true, Bool.not_false, Int.toNat_natCast, List.length_append, List.length_cons, List.length_nil, List.drop_zero, Nat.zero_add, Nat.add_zero, decT, decF, bneI_t, bneI_f, e1, hcd, ef, hw0, p1, he]
      · rw [if_neg he]
        simp (disch := omega) only [onI_c, onS_c, onB_c, onN_c, onL_c, Option.bind_some, Option.map_some, cond_true, cond_false, ↓onI_c, ↓onS_c, ↓onB_c, ↓onN_c, ↓onL_c, ↓Option.bind_some, ↓cond_true, ↓cond_false, decide_eq_true, decide_eq_false, Bool.not_true, Bool.not_false, Int.toNat_natCast, List.length_append, List.length_cons, List.length_nil, List.drop_zero, Nat.zero_add, Nat.add_zero, decT, decF, bneI_t, bneI_f, e1, hcd, ef, hw0, p1, he]
    | false =>
      rw [if_neg (by simp)]
      rw [hc, if_neg (by simp)] at ef
      by_cases he : (pparse s).2 = 0
      · rw [if_pos he]
        simp (disch := omega) only [onI_c, onS_c, onB_c, onN_c, onL_c, Option.bind_some, Option.map_some, cond_true, cond_false, ↓onI_c, ↓onS_c, ↓onB_c, ↓onN_c, ↓onL_c, ↓Option.bind_some, ↓cond_true, ↓cond_false, decide_eq_true, decide_eq_false, Bool.not_true, Bool.not_false, Int.toNat_natCast, List.length_append, List.length_cons, List.length_nil, List.drop_zero, Nat.zero_add, Nat.add_zero, decT, decF, bneI_t, bneI_f, e1, hcd, ef, p0, he]
      · rw [if_neg he]
        simp (disch := omega) only [onI_c, onS_c, onB_c, onN_c, onL_c, Option.bind_some, Option.map_some, cond_true, cond_false, ↓onI_c, ↓onS_c, ↓onB_c, ↓onN_c, ↓onL_c, ↓Option.bind_some, ↓cond_true, ↓cond_false, decide_eq_true, decide_eq_false, Bool.not_true, Bool.not_false, Int.toNat_natCast, List.length_append, List.length_cons, List.length_nil, List.drop_zero, Nat.zero_add, Nat.add_zero, decT, decF, bneI_t, bneI_f, e1, hcd, ef, p0, he]

/-! Printing. -/
def Cok (x b : Int) : Prop := -604799 ≤ x ∧ x ≤ 604799 ∧ 0 ≤ b ∧ b ≤ 2
instance (x b : Int) : Decidable (Cok x b) := by unfold Cok; infer_instance
def suf (b : Int) : List UInt8 := if b = 1 then [115] else if b = 2 then [117] else []
def cprint (x b : Int) : List Dat := if Cok x b then [.s (pr x ++ suf b), .i 0] else [.s [], .i 2]
theorem check_at (x b : Int) : F_clock_Check [.i x, .i b] = some [.i (if Cok x b then 0 else 2)] := by
  unfold F_clock_Check
  by_cases h : Cok x b
  · rw [if_pos h]
    unfold Cok at h
    obtain ⟨h1, h2, h3, h4⟩ := h
    simp (disch := omega) only [onI_c, onS_c, onB_c, onN_c, onL_c, Option.bind_some, Option.map_some, cond_true, cond_false, ↓onI_c, ↓onS_c, ↓onB_c, ↓onN_c, ↓onL_c, ↓Option.bind_some, ↓cond_true, ↓cond_false, decide_eq_true, decide_eq_false, Bool.not_true, Bool.not_false, Int.toNat_natCast, List.length_append, List.length_cons, List.length_nil, List.drop_zero, Nat.zero_add, Nat.add_zero, decT, decF, bneI_t, bneI_f]
  · rw [if_neg h]
    unfold Cok at h
    by_cases h1 : x < -604799
    · simp (disch := omega) only [onI_c, onS_c, onB_c, onN_c, onL_c, Option.bind_some, Option.map_some, cond_true, cond_false, ↓onI_c, ↓onS_c, ↓onB_c, ↓onN_c, ↓onL_c, ↓Option.bind_some, ↓cond_true, ↓cond_false, decide_eq_true, decide_eq_false, Bool.not_true, Bool.not_false, Int.toNat_natCast, List.length_append, List.length_cons, List.length_nil, List.drop_zero, Nat.zero_add, Nat.add_zero, decT, decF, bneI_t, bneI_f]
    by_cases h2 : 604799 < x
    · simp (disch := omega) only [onI_c, onS_c, onB_c, onN_c, onL_c, Option.bind_some, Option.map_some, cond_true, cond_false, ↓onI_c, ↓onS_c, ↓onB_c, ↓onN_c, ↓onL_c, ↓Option.bind_some, ↓cond_true, ↓cond_false, decide_eq_true, decide_eq_false, Bool.not_true, Bool.not_false, Int.toNat_natCast, List.length_append, List.length_cons, List.length_nil, List.drop_zero, Nat.zero_add, Nat.add_zero, decT, decF, bneI_t, bneI_f]
    by_cases h3 : b < 0
    · simp (disch := omega) only [onI_c, onS_c, onB_c, onN_c, onL_c, Option.bind_some, Option.map_some, cond_true, cond_false, ↓onI_c, ↓onS_c, ↓onB_c, ↓onN_c, ↓onL_c, ↓Option.bind_some, ↓cond_true, ↓cond_false, decide_eq_true, decide_eq_false, Bool.not_true, Bool.not_false, Int.toNat_natCast, List.length_append, List.length_cons, List.length_nil, List.drop_zero, Nat.zero_add, Nat.add_zero, decT, decF, bneI_t, bneI_f]
    · simp (disch := omega) only [onI_c, onS_c, onB_c, onN_c, onL_c, Option.bind_some, Option.map_some, cond_true, cond_false, ↓onI_c, ↓onS_c, ↓onB_c, ↓onN_c, ↓onL_c, ↓Option.bind_some, ↓cond_true, ↓cond_false, decide_eq_true, decide_eq_false, Bool.not_true, Bool.not_false, Int.toNat_natCast, List.length_append, List.length_cons, List.length_nil, List.drop_zero, Nat.zero_add, Nat.add_zero, decT, decF, bneI_t, bneI_f]
theorem rcheck_at (x b : Int) : F_ref06_Check [.i x, .i b] = some [.i (if Cok x b then 0 else 2)] := check_at x b
theorem cprint_at (x b : Int) : F_clock_Print [.i x, .i b] = some (cprint x b) := by
  unfold F_clock_Print cprint
  have hc := check_at x b
  by_cases h : Cok x b
  · rw [if_pos h] at hc ⊢
    unfold Cok at h
    obtain ⟨h1, h2, h3, h4⟩ := h
    have hp := print_at h1 h2
    have hl := pr_len h1 h2
    have hb : b = 0 ∨ b = 1 ∨ b = 2 := by omega
    rcases hb with rfl | rfl | rfl
    · have e : suf 0 = [] := rfl
      have e2 : asS ([(Ax.AV.str (Ax.S.lit ([119] : List UInt8))), (Ax.AV.str (Ax.S.lit ([115] : List UInt8))), (Ax.AV.str (Ax.S.lit ([103, 122, 117] : List UInt8)))][(0 : Int).toNat]?) = some [119] := rfl
      simp (disch := omega) only [onI_c, onS_c, onB_c, onN_c, onL_c, Option.bind_some, Option.map_some, cond_true, cond_false, ↓onI_c, ↓onS_c, ↓onB_c, ↓onN_c, ↓onL_c, ↓Option.bind_some, ↓cond_true, ↓cond_false, decide_eq_true, decide_eq_false, Bool.not_true, Bool.not_false, Int.toNat_natCast, List.length_append, List.length_cons, List.length_nil, List.drop_zero, Nat.zero_add, Nat.add_zero, decT, decF, bneI_t, bneI_f, hc, hp, e, e2, List.append_nil]
    · have e : suf 1 = [115] := rfl
      have e2 : asS ([(Ax.AV.str (Ax.S.lit ([119] : List UInt8))), (Ax.AV.str (Ax.S.lit ([115] : List UInt8))), (Ax.AV.str (Ax.S.lit ([103, 122, 117] : List UInt8)))][(1 : Int).toNat]?) = some [115] := rfl
      have e3 : i64 (((1 : Nat) : Int) - 1) = 0 := rfl
      have e4 : List.take (1 - (0 : Int).toNat) (List.drop (0 : Int).toNat ([115] : List UInt8)) = [115] := rfl
      have e5 : (([115] : List UInt8)).length = 1 := rfl
      simp (disch := omega) only [onI_c, onS_c, Option.bind_some, cond_true, cond_false, ↓onI_c, ↓onS_c, ↓Option.bind_some, ↓cond_true, ↓cond_false, decide_eq_true, decide_eq_false, decT, decF, Bool.not_true, Bool.not_false, hc, hp, e, e2, e3, e4, e5]
    · have e : suf 2 = [117] := rfl
      have e2 : asS ([(Ax.AV.str (Ax.S.lit ([119] : List UInt8))), (Ax.AV.str (Ax.S.lit ([115] : List UInt8))), (Ax.AV.str (Ax.S.lit ([103, 122, 117] : List UInt8)))][(2 : Int).toNat]?) = some [103, 122, 117] := rfl
      have e3 : i64 (((3 : Nat) : Int) - 1) = 2 := rfl
      have e4 : List.take (3 - (2 : Int).toNat) (List.drop (2 : Int).toNat ([103, 122, 117] : List UInt8)) = [117] := rfl
      have e5 : (([103, 122, 117] : List UInt8)).length = 3 := rfl
      have e6 : (([117] : List UInt8)).length = 1 := rfl
      simp (disch := omega) only [onI_c, onS_c, Option.bind_some, cond_true, cond_false, ↓onI_c, ↓onS_c, ↓Option.bind_some, ↓cond_true, ↓cond_false, decide_eq_true, decide_eq_false, decT, decF, Bool.not_true, Bool.not_false, hc, hp, e, e2, e3, e4, e5, e6]
  · rw [if_neg h] at hc ⊢
    simp (disch := omega) only [onI_c, onS_c, onB_c, onN_c, onL_c, Option.bind_some, Option.map_some, cond_true, cond_false, ↓onI_c, ↓onS_c, ↓onB_c, ↓onN_c, ↓onL_c, ↓Option.bind_some, ↓cond_true, ↓cond_false, decide_eq_true, decide_eq_false, Bool.not_true, Bool.not_false, Int.toNat_natCast, List.length_append, List.length_cons, List.length_nil, List.drop_zero, Nat.zero_add, Nat.add_zero, decT, decF, bneI_t, bneI_f, hc]
theorem rcprint_at (x b : Int) : F_ref06_Print [.i x, .i b] = some (cprint x b) := by
  unfold F_ref06_Print cprint
  have hc := rcheck_at x b
  by_cases h : Cok x b
  · rw [if_pos h] at hc ⊢
    unfold Cok at h
    obtain ⟨h1, h2, h3, h4⟩ := h
    have hp := refPrint_at h1 h2
    have hl := pr_len h1 h2
    have hb : b = 0 ∨ b = 1 ∨ b = 2 := by omega
    rcases hb with rfl | rfl | rfl
    · have e : suf 0 = [] := rfl
      simp (disch := omega) only [onI_c, onS_c, onB_c, onN_c, onL_c, Option.bind_some, Option.map_some, cond_true, cond_false, ↓onI_c, ↓onS_c, ↓onB_c, ↓onN_c, ↓onL_c, ↓Option.bind_some, ↓cond_true, ↓cond_false, decide_eq_true, decide_eq_false, Bool.not_true, Bool.not_false, Int.toNat_natCast, List.length_append, List.length_cons, List.length_nil, List.drop_zero, Nat.zero_add, Nat.add_zero, decT, decF, bneI_t, bneI_f, hc, hp, e, List.append_nil]
    · have e : suf 1 = [115] := rfl
      simp (disch := omega) only [onI_c, onS_c, onB_c, onN_c, onL_c, Option.bind_some, Option.map_some, cond_true, cond_false, ↓onI_c, ↓onS_c, ↓onB_c, ↓onN_c, ↓onL_c, ↓Option.bind_some, ↓cond_true, ↓cond_false, decide_eq_true, decide_eq_false, Bool.not_true, Bool.not_false, Int.toNat_natCast, List.length_append, List.length_cons, List.length_nil, List.drop_zero, Nat.zero_add, Nat.add_zero, decT, decF, bneI_t, bneI_f, hc, hp, e]
    · have e : suf 2 = [117] := rfl
      simp (disch := omega) only [onI_c, onS_c, onB_c, onN_c, onL_c, Option.bind_some, Option.map_some, cond_true, cond_false, ↓onI_c, ↓onS_c, ↓onB_c, ↓onN_c, ↓onL_c, ↓Option.bind_some, ↓cond_true, ↓cond_false, decide_eq_true, decide_eq_false, Bool.not_true, Bool.not_false, Int.toNat_natCast, List.length_append, List.length_cons, List.length_nil, List.drop_zero, Nat.zero_add, Nat.add_zero, decT, decF, bneI_t, bneI_f, hc, hp, e]
  · rw [if_neg h] at hc ⊢
    simp (disch := omega) only [onI_c, onS_c, onB_c, onN_c, onL_c, Option.bind_some, Option.map_some, cond_true, cond_false, ↓onI_c, ↓onS_c, ↓onB_c, ↓onN_c, ↓onL_c, ↓Option.bind_some, ↓cond_true, ↓cond_false, decide_eq_true, decide_eq_false, Bool.not_true, Bool.not_false, Int.toNat_natCast, List.length_append, List.length_cons, List.length_nil, List.drop_zero, Nat.zero_add, Nat.add_zero, decT, decF, bneI_t, bneI_f, hc]

/-! What is printed is read. -/
theorem last_app (s : List UInt8) (c : UInt8) : lastI (s ++ [c]) = (c.toNat : Nat) := by
  unfold lastI
  rw [List.length_append, show ([c] : List UInt8).length = 1 from rfl, Nat.add_sub_cancel, List.getD_eq_getElem?_getD, List.getElem?_append_right (Nat.le_refl _), Nat.sub_self]
  rfl
theorem prN_last (x : Nat) : ∃ t d, prN x = t ++ [d] ∧ isD d = true := by
  rw [prN_eq]
  by_cases h : x % 60 = 0
  · rw [if_pos h, List.append_nil]
    refine ⟨decDigits (x / 3600) ++ [58, UInt8.ofNat (48 + x / 60 % 60 / 10)], UInt8.ofNat (48 + x / 60 % 60 % 10), by simp [twoD], ?_⟩
    rw [isD_iff, UInt8.toNat_ofNat_of_lt' (by show _ < 256; omega)]; omega
  · rw [if_neg h]
    refine ⟨decDigits (x / 3600) ++ 58 :: (twoD (x / 60 % 60) ++ [58, UInt8.ofNat (48 + x % 60 / 10)]), UInt8.ofNat (48 + x % 60 % 10), by simp [twoD], ?_⟩
    rw [isD_iff, UInt8.toNat_ofNat_of_lt' (by show _ < 256; omega)]; omega
theorem pr_last (x : Int) : ∃ t d, pr x = t ++ [d] ∧ isD d = true := by
  unfold pr
  split
  · obtain ⟨t, d, h1, h2⟩ := prN_last x.natAbs
    exact ⟨45 :: t, d, by rw [h1]; rfl, h2⟩
  · exact prN_last _
theorem digit_noletter {d : UInt8} (h : isD d = true) : isLetter ((d.toNat : Nat) : Int) = false := by
  have := isD_iff.1 h
  unfold isLetter
  exact decide_eq_false (by omega)
theorem app_ne (s : List UInt8) (c : UInt8) : s ++ [c] ≠ [] := by simp
theorem take_app (s : List UInt8) (c : UInt8) : (s ++ [c]).take ((s ++ [c]).length - 1) = s := by
  rw [List.length_append, show ([c] : List UInt8).length = 1 from rfl, Nat.add_sub_cancel]; exact List.take_left
theorem cparse_letter (s : List UInt8) {c : UInt8} (h : isLetter ((c.toNat : Nat) : Int) = true) : cparse (s ++ [c]) = cres (pparse s) (letterBase ((c.toNat : Nat) : Int)) := by
  unfold cparse
  rw [if_neg (app_ne s c), last_app, if_pos h, take_app]
theorem cparse_other (s : List UInt8) {c : UInt8} (h : isLetter ((c.toNat : Nat) : Int) = false) : cparse (s ++ [c]) = cres (pparse (s ++ [c])) 0 := by
  unfold cparse
  rw [if_neg (app_ne s c), last_app, if_neg (by rw [h]; simp)]
theorem cparse_cprint {x b : Int} (h : Cok x b) : cparse (pr x ++ suf b) = [.i x, .i b, .i 0] := by
  unfold Cok at h
  obtain ⟨h1, h2, h3, h4⟩ := h
  have hp := pparse_pr h1 h2
  have hb : b = 0 ∨ b = 1 ∨ b = 2 := by omega
  rcases hb with rfl | rfl | rfl
  · rw [show suf 0 = [] from rfl, List.append_nil]
    obtain ⟨t, d, e1, e2⟩ := pr_last x
    rw [e1, cparse_other t (digit_noletter e2), ← e1, hp]; rfl
  · rw [show suf 1 = [115] from rfl, cparse_letter _ rfl, hp]; rfl
  · rw [show suf 2 = [117] from rfl, cparse_letter _ rfl, hp]; rfl
theorem cprint_inj {x b y d : Int} (h : Cok x b) (k : Cok y d) (e : pr x ++ suf b = pr y ++ suf d) : x = y ∧ b = d := by
  have h1 := cparse_cprint h
  rw [e, cparse_cprint k] at h1
  simp only [List.cons.injEq, Dat.i.injEq] at h1
  exact ⟨h1.1.symm, h1.2.1.symm⟩
theorem made_at {m a : Int} (hm : -2147483648 ≤ m ∧ m ≤ 2147483647) (ha : 0 ≤ a ∧ a ≤ 255) : ∃ x b, F_law06_Made [.i m, .i a] = some [.i x, .i b] ∧ Cok x b := by
  refine ⟨Int.tmod m 604800, a % 3, ?_, ?_⟩
  · unfold F_law06_Made
    have e1 : i64 m = m := i64_in _ (by omega)
    have e2 : i64 (Int.tmod a 3) = a % 3 := by rw [tmod_nn ha.1, i64_in _ (by omega)]
    simp only [onI_c, e1, e2]
  · have h1 := Int.tmod_lt_of_pos m (b := 604800) (by omega)
    have h2 := Int.lt_tmod_of_pos m (b := 604800) (by omega)
    unfold Cok; omega
theorem andt (p : Bool) : (p && true) = p := by cases p <;> rfl
theorem and_tt : (true && true) = true := rfl
theorem and_tf : (true && false) = false := rfl
theorem and_f (p : Bool) : (false && p) = false := rfl

theorem lawP_ClockStrings {dats : List Dat} (h : DatOk tau [.string] dats) : F_law06_ClockStrings dats = some [.b true] := by
  obtain ⟨s, r, rfl, hs, rfl⟩ := h
  unfold F_law06_ClockStrings
  by_cases hl : 1000 < s.length
  · simp (disch := omega) only [onI_c, onS_c, onB_c, onN_c, onL_c, Option.bind_some, Option.map_some, cond_true, cond_false, ↓onI_c, ↓onS_c, ↓onB_c, ↓onN_c, ↓onL_c, ↓Option.bind_some, ↓cond_true, ↓cond_false, decide_eq_true, decide_eq_false, Bool.not_true, Bool.not_false, Int.toNat_natCast, List.length_append, List.length_cons, List.length_nil, List.drop_zero, Nat.zero_add, Nat.add_zero, decT, decF, bneI_t, bneI_f, cworks_at]
  · have p1 := cparse_at (s := s) (by omega)
    have p2 := rcparse_at (s := s) (by omega)
    obtain ⟨x, y, z, e⟩ := cparse_s s
    rw [e] at p1 p2
    simp (disch := omega) only [onI_c, onS_c, onB_c, onN_c, onL_c, Option.bind_some, Option.map_some, cond_true, cond_false, ↓onI_c, ↓onS_c, ↓onB_c, ↓onN_c, ↓onL_c, ↓Option.bind_some, ↓cond_true, ↓cond_false, decide_eq_true, decide_eq_false, Bool.not_true, Bool.not_false, Int.toNat_natCast, List.length_append, List.length_cons, List.length_nil, List.drop_zero, Nat.zero_add, Nat.add_zero, decT, decF, bneI_t, bneI_f, p1, p2, cworks_at, and_tt]
theorem lawP_ClockTimes {dats : List Dat} (h : DatOk tau [.int .i64, .int .i64] dats) : F_law06_ClockTimes dats = some [.b true] := by
  obtain ⟨x, r, rfl, hx, b, r, rfl, hb, rfl⟩ := h
  unfold F_law06_ClockTimes
  have p1 := cprint_at x b
  have p2 := rcprint_at x b
  have p3 := check_at x b
  have p4 := rcheck_at x b
  obtain ⟨s, e, hs⟩ : ∃ s e, cprint x b = [.s s, .i e] := by unfold cprint; split <;> exact ⟨_, _, rfl⟩
  rw [hs] at p1 p2
  generalize (if Cok x b then (0 : Int) else 2) = k at *
  simp (disch := omega) only [onI_c, onS_c, onB_c, onN_c, onL_c, Option.bind_some, Option.map_some, cond_true, cond_false, ↓onI_c, ↓onS_c, ↓onB_c, ↓onN_c, ↓onL_c, ↓Option.bind_some, ↓cond_true, ↓cond_false, decide_eq_true, decide_eq_false, Bool.not_true, Bool.not_false, Int.toNat_natCast, List.length_append, List.length_cons, List.length_nil, List.drop_zero, Nat.zero_add, Nat.add_zero, decT, decF, bneI_t, bneI_f, p1, p2, p3, p4, cworks_at, beq_self_eq_true]
theorem pr_ne {x : Int} (h0 : -604799 ≤ x) (h1 : x ≤ 604799) (t : List UInt8) : (pr x ++ t == []) = false := beq_f fun e => by
  have := pr_len h0 h1
  have := congrArg List.length e
  rw [List.length_append, List.length_nil] at this; omega
theorem suf_len (b : Int) : (suf b).length ≤ 1 := by unfold suf; split; simp; split <;> simp
theorem lawP_ClockBack {dats : List Dat} (h : DatOk tau [.int .i32, .int .i32, .int .u8, .int .u8] dats) : F_law06_ClockBack dats = some [.b true] := by
  obtain ⟨m, r, rfl, hm, n, r, rfl, hn, a, r, rfl, ha, b, r, rfl, hb, rfl⟩ := h
  obtain ⟨x, c, m1, h1⟩ := made_at (wf_i32 hm) (wf_u8 ha)
  obtain ⟨y, d, m2, h2⟩ := made_at (wf_i32 hn) (wf_u8 hb)
  clear hm hn ha hb
  unfold F_law06_ClockBack
  have p1 := cprint_at x c
  have p2 := cprint_at y d
  have p3 := check_at x c
  unfold cprint at p1 p2
  rw [if_pos h1] at p1 p3
  rw [if_pos h2] at p2
  have hl := pr_len (x := x) h1.1 h1.2.1
  have hsl := suf_len c
  have p4 := cparse_at (s := pr x ++ suf c) (by rw [List.length_append]; omega)
  rw [cparse_cprint h1] at p4
  have hne := pr_ne h1.1 h1.2.1 (suf c)
  have inj : pr x ++ suf c = pr y ++ suf d ↔ x = y ∧ c = d := ⟨fun e => cprint_inj h1 h2 e, fun ⟨e1, e2⟩ => by rw [e1, e2]⟩
  clear h1 h2 hl hsl
  generalize pr x ++ suf c = s at *
  generalize pr y ++ suf d = t at *
  by_cases q : x = y ∧ c = d
  · have q3 := beq_t (inj.2 q)
    have q4 : (decide (x = y) && (decide (c = d) && true)) = true := by rw [decide_eq_true q.1, decide_eq_true q.2]; rfl
    clear inj q
    have q5 : (decide (x = x) && (decide (c = c) && true)) = true := by simp
    simp (disch := omega) only [onI_c, onS_c, onB_c, Option.bind_some, cond_true, cond_false, ↓onI_c, ↓onS_c, ↓onB_c, ↓Option.bind_some, ↓cond_true, ↓cond_false, Bool.not_false, Bool.not_true, decide_eq_true, decT, decF, m1, m2, p1, p2, p3, p4, hne, q3, ↓q4, ↓q5, cworks_at]
  · have q3 := beq_f fun e => q (inj.1 e)
    have q4 : (decide (x = y) && (decide (c = d) && true)) = false := by
      rw [andt]
      by_cases e : x = y
      · rw [decide_eq_false (fun z => q ⟨e, z⟩), Bool.and_false]
      · rw [decide_eq_false e]; rfl
    clear inj q
    have q5 : (decide (x = x) && (decide (c = c) && true)) = true := by simp
    simp (disch := omega) only [onI_c, onS_c, onB_c, Option.bind_some, cond_true, cond_false, ↓onI_c, ↓onS_c, ↓onB_c, ↓Option.bind_some, ↓cond_true, ↓cond_false, Bool.not_false, Bool.not_true, decide_eq_true, decT, decF, m1, m2, p1, p2, p3, p4, hne, q3, ↓q4, ↓q5, cworks_at]
theorem cparse_cases (s : List UInt8) : (∃ x b, cparse s = [.i x, .i b, .i 0] ∧ Cok x b) ∨ cparse s = [.i 0, .i 0, .i 5] ∨ cparse s = [.i 0, .i 0, .i 3] := by
  have key : ∀ (w : List UInt8) (b : Int), 0 ≤ b ∧ b ≤ 2 → (∃ x c, cres (pparse w) b = [.i x, .i c, .i 0] ∧ Cok x c) ∨ cres (pparse w) b = [.i 0, .i 0, .i 5] ∨ cres (pparse w) b = [.i 0, .i 0, .i 3] := by
    intro w b hb
    unfold cres
    rcases pparse_cases w with ⟨h1, h2, h3⟩ | h | h
    · rw [if_pos h1]; exact .inl ⟨_, _, rfl, h2, h3, hb.1, hb.2⟩
    · rw [h]; exact .inr (.inl rfl)
    · rw [h]; exact .inr (.inr rfl)
  unfold cparse
  split
  · exact key _ _ (by omega)
  · split
    · exact key _ _ (letterBase_rng _)
    · exact key _ _ (by omega)
theorem lawP_ClockReads {dats : List Dat} (h : DatOk tau [.string] dats) : F_law06_ClockReads dats = some [.b true] := by
  obtain ⟨s, r, rfl, hs, rfl⟩ := h
  unfold F_law06_ClockReads
  by_cases hl : 200 < s.length
  · simp (disch := omega) only [onI_c, onS_c, onB_c, onN_c, onL_c, Option.bind_some, Option.map_some, cond_true, cond_false, ↓onI_c, ↓onS_c, ↓onB_c, ↓onN_c, ↓onL_c, ↓Option.bind_some, ↓cond_true, ↓cond_false, decide_eq_true, decide_eq_false, Bool.not_true, Bool.not_false, Int.toNat_natCast, List.length_append, List.length_cons, List.length_nil, List.drop_zero, Nat.zero_add, Nat.add_zero, decT, decF, bneI_t, bneI_f, cworks_at]
  · have p1 := cparse_at (s := s) (by omega)
    rcases cparse_cases s with ⟨x, b, e, hc⟩ | e | e
    · rw [e] at p1
      have p2 := cprint_at x b
      have p3 := check_at x b
      unfold cprint at p2
      rw [if_pos hc] at p2 p3
      have hl := pr_len (x := x) hc.1 hc.2.1
      have hsl := suf_len b
      have p4 := cparse_at (s := pr x ++ suf b) (by rw [List.length_append]; omega)
      rw [cparse_cprint hc] at p4
      simp (disch := omega) only [onI_c, onS_c, onB_c, onN_c, onL_c, Option.bind_some, Option.map_some, cond_true, cond_false, ↓onI_c, ↓onS_c, ↓onB_c, ↓onN_c, ↓onL_c, ↓Option.bind_some, ↓cond_true, ↓cond_false, decide_eq_true, decide_eq_false, Bool.not_true, Bool.not_false, Int.toNat_natCast, List.length_append, List.length_cons, List.length_nil, List.drop_zero, Nat.zero_add, Nat.add_zero, decT, decF, bneI_t, bneI_f, p1, p2, p3, p4, cworks_at, and_tt]
    · rw [e] at p1
      simp (disch := omega) only [onI_c, onS_c, onB_c, onN_c, onL_c, Option.bind_some, Option.map_some, cond_true, cond_false, ↓onI_c, ↓onS_c, ↓onB_c, ↓onN_c, ↓onL_c, ↓Option.bind_some, ↓cond_true, ↓cond_false, decide_eq_true, decide_eq_false, Bool.not_true, Bool.not_false, Int.toNat_natCast, List.length_append, List.length_cons, List.length_nil, List.drop_zero, Nat.zero_add, Nat.add_zero, decT, decF, bneI_t, bneI_f, p1, cworks_at, and_tt]
    · rw [e] at p1
      simp (disch := omega) only [onI_c, onS_c, onB_c, onN_c, onL_c, Option.bind_some, Option.map_some, cond_true, cond_false, ↓onI_c, ↓onS_c, ↓onB_c, ↓onN_c, ↓onL_c, ↓Option.bind_some, ↓cond_true, ↓cond_false, decide_eq_true, decide_eq_false, Bool.not_true, Bool.not_false, Int.toNat_natCast, List.length_append, List.length_cons, List.length_nil, List.drop_zero, Nat.zero_add, Nat.add_zero, decT, decF, bneI_t, bneI_f, p1, cworks_at, and_tt]
end Go.Proofs.YtnfgmffcnmifkaaDoor
