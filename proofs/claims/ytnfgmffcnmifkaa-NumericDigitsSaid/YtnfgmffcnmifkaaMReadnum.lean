/-
  Numeric abbreviations: what both parsers read.
-/
import Derived.Test.YtnfgmffcnmifkaaMParsenum
namespace Go.Proofs.Ytnfgmffcnmifkaa
open Go.Ax
set_option linter.all false
set_option maxHeartbeats 8000000
attribute [local congr] cond_cong bind_cong onI_cong onB_cong onS_cong onN_cong onL_cong

theorem u8_rng (x : Int) : 0 ≤ u8 x ∧ u8 x ≤ 255 := by rw [u8_eq]; omega
/-- Two bytes, read as digits. -/
def DD (s : List UInt8) (i : Nat) : Int := 10 * u8 (((s.getD i 0).toNat : Int) - 48) + u8 (((s.getD (i + 1) 0).toNat : Int) - 48)
theorem DD_rng (s : List UInt8) (i : Nat) : 0 ≤ DD s i ∧ DD s i ≤ 2805 := by
  have h1 := u8_rng (((s.getD i 0).toNat : Int) - 48)
  have h2 := u8_rng (((s.getD (i + 1) 0).toNat : Int) - 48)
  unfold DD; omega
theorem mul_rng {d u : Int} (hd : 0 ≤ d ∧ d ≤ 2805) (hu : 0 ≤ u ∧ u ≤ 3600) : 0 ≤ d * u ∧ d * u ≤ 10098000 :=
  ⟨Int.mul_nonneg hd.1 hu.1, Int.le_trans (Int.mul_le_mul hd.2 hu.2 hu.1 (by omega)) (by omega)⟩
theorem step_np {s : List UInt8} {o u : Int} {i : Nat} (h : i + 1 < s.length) (hl : s.length ≤ 100) (ho : 0 ≤ o ∧ o ≤ 1000000000) (hu : 0 ≤ u ∧ u ≤ 3600) :
    F_numeric_Parse_L0 [.s s, .i o, .i u, .i (i : Int)] = some (.inl [.s s, .i (o + DD s i * u), .i (u / 60), .i ((i + 2 : Nat) : Int)]) := by
  unfold F_numeric_Parse_L0
  have e1 : i64 ((i : Int) + 1) = ((i + 1 : Nat) : Int) := by rw [i64_in _ (by omega)]; omega
  have e2 : i64 ((i : Int) + 2) = ((i + 2 : Nat) : Int) := by rw [i64_in _ (by omega)]; omega
  have h1 := u8_rng (((s.getD i 0).toNat : Int) - 48)
  have h2 := u8_rng (((s.getD (i + 1) 0).toNat : Int) - 48)
  have h3 := mul_rng (DD_rng s i) hu
  have e3 : i64 (10 * i64 (u8 (((s.getD i 0).toNat : Int) - 48))) = 10 * u8 (((s.getD i 0).toNat : Int) - 48) := by rw [i64_in (u8 _) (by omega), i64_in _ (by omega)]
  have e4 : i64 (10 * u8 (((s.getD i 0).toNat : Int) - 48) + i64 (u8 (((s.getD (i + 1) 0).toNat : Int) - 48))) = DD s i := by rw [i64_in (u8 _) (by omega), i64_in _ (by omega)]; rfl
  have e5 : i64 (o + i64 (DD s i * u)) = o + DD s i * u := by rw [i64_in (DD s i * u) (by omega), i64_in _ (by omega)]
  have e6 : i64 (Int.tdiv u 60) = u / 60 := by rw [tdiv_nn hu.1, i64_in _ (by omega)]
  simp (disch := omega) only [onI_c, onS_c, onB_c, onN_c, onL_c, Option.bind_some, Option.map_some, cond_true, cond_false, ↓onI_c, ↓onS_c, ↓onB_c, ↓onN_c, ↓onL_c, ↓Option.bind_some, ↓cond_true, ↓cond_false, decide_eq_true, decide_eq_false, Bool.not_true, Bool.not_false, Int.toNat_natCast, List.length_append, List.length_cons, List.length_nil, List.drop_zero, Nat.zero_add, Nat.add_zero, decT, decF, bneI_t, bneI_f, e1, e2, e3, e4, e5, e6]
/-- With the sign. -/
def sgn (s : List UInt8) (o : Int) : Int := if (((s.getD 0 0).toNat : Nat) : Int) = 45 then -o else o
theorem end_np {s : List UInt8} {o u : Int} {i : Nat} (h : s.length ≤ i) (h0 : 0 < s.length) (ho : 0 ≤ o ∧ o ≤ 1000000000) :
    F_numeric_Parse_L0 [.s s, .i o, .i u, .i (i : Int)] = some (.inr (if NT (sgn s o) = s then [.i (sgn s o), .i 0] else [.i 0, .i 5])) := by
  unfold F_numeric_Parse_L0
  have e1 : i64 (0 - o) = -o := by rw [i64_in _ (by omega)]; omega
  have t1 := text_at (x := -o) (by omega)
  have t2 := text_at (x := o) (by omega)
  unfold sgn
  by_cases hs : (((s.getD 0 0).toNat : Nat) : Int) = 45
  · rw [if_pos hs]
    by_cases hq : NT (-o) = s
    · rw [if_pos hq]
      simp (disch := omega) only [onI_c, onS_c, onB_c, onN_c, onL_c, Option.bind_some, Option.map_some, cond_true, cond_false, ↓onI_c, ↓onS_c, ↓onB_c, ↓onN_c, ↓onL_c, ↓Option.bind_some, ↓cond_true, ↓cond_false, decide_eq_true, decide_eq_false, Bool.not_true, Bool.not_false, Int.toNat_natCast, List.length_append, List.length_cons, List.length_nil, List.drop_zero, Nat.zero_add, Nat.add_zero, decT, decF, bneI_t, bneI_f, hs, e1, t1, hq, beq_t hq, beq_self_eq_true]
    · rw [if_neg hq]
      simp (disch := omega) only [onI_c, onS_c, onB_c, onN_c, onL_c, Option.bind_some, Option.map_some, cond_true, cond_false, ↓onI_c, ↓onS_c, ↓onB_c, ↓onN_c, ↓onL_c, ↓Option.bind_some, ↓cond_true, ↓cond_false, decide_eq_true, decide_eq_false, Bool.not_true, Bool.not_false, Int.toNat_natCast, List.length_append, List.length_cons, List.length_nil, List.drop_zero, Nat.zero_add, Nat.add_zero, decT, decF, bneI_t, bneI_f, hs, e1, t1, beq_f hq]
  · rw [if_neg hs]
    by_cases hq : NT o = s
    · rw [if_pos hq]
      simp (disch := omega) only [onI_c, onS_c, onB_c, onN_c, onL_c, Option.bind_some, Option.map_some, cond_true, cond_false, ↓onI_c, ↓onS_c, ↓onB_c, ↓onN_c, ↓onL_c, ↓Option.bind_some, ↓cond_true, ↓cond_false, decide_eq_true, decide_eq_false, Bool.not_true, Bool.not_false, Int.toNat_natCast, List.length_append, List.length_cons, List.length_nil, List.drop_zero, Nat.zero_add, Nat.add_zero, decT, decF, bneI_t, bneI_f, hs, e1, t2, beq_t hq, hq, beq_self_eq_true]
    · rw [if_neg hq]
      simp (disch := omega) only [onI_c, onS_c, onB_c, onN_c, onL_c, Option.bind_some, Option.map_some, cond_true, cond_false, ↓onI_c, ↓onS_c, ↓onB_c, ↓onN_c, ↓onL_c, ↓Option.bind_some, ↓cond_true, ↓cond_false, decide_eq_true, decide_eq_false, Bool.not_true, Bool.not_false, Int.toNat_natCast, List.length_append, List.length_cons, List.length_nil, List.drop_zero, Nat.zero_add, Nat.add_zero, decT, decF, bneI_t, bneI_f, hs, e1, t2, beq_f hq]
def fin (s : List UInt8) (o : Int) : List Dat := if NT (sgn s o) = s then [.i (sgn s o), .i 0] else [.i 0, .i 5]
/-- What the digits of a string say. -/
def val (s : List UInt8) : Int := DD s 1 * 3600 + (if s.length < 5 then 0 else DD s 3 * 60 + (if s.length < 7 then 0 else DD s 5))
def odd (s : List UInt8) : Prop := s.length = 3 ∨ s.length = 5 ∨ s.length = 7
theorem parse_odd {s : List UInt8} (h : odd s) : F_numeric_Parse [.s s] = some (fin s (val s)) := by
  unfold F_numeric_Parse
  have hb : ((((s).length : Nat) : Int) < 3) = False := by unfold odd at h; simp; omega
  have hb2 : (7 < (((s).length : Nat) : Int)) = False := by unfold odd at h; simp; omega
  have hb3 : (Int.tmod (((s).length : Nat) : Int) 2 = 0) = False := by rw [tmod_nn (by omega)]; unfold odd at h; simp; omega
  simp only [onS_c, hb, hb2, hb3, decF, cond_false, Option.bind_some]
  have d1 := DD_rng s 1
  have d3 := DD_rng s 3
  have d5 := DD_rng s 5
  have z1 : (60 : Int) = 3600 / 60 := rfl
  have z2 : (1 : Int) = 3600 / 60 / 60 := rfl
  have s1 := step_np (s := s) (o := 0) (u := 3600) (i := 1) (by unfold odd at h; omega) (by unfold odd at h; omega) (by omega) (by omega)
  rw [show ((1 : Int)) = ((1 : Nat) : Int) from rfl, iter_next s1]
  have e1 : (3600 : Int) / 60 = 60 := rfl
  have e2 : (60 : Int) / 60 = 1 := rfl
  have x3 : DD s (1 + 2) = DD s 3 := rfl
  have x5 : DD s (1 + 2 + 2) = DD s 5 := rfl
  rw [e1]
  rcases h with h | h | h
  · have hv : val s = 0 + DD s 1 * 3600 := by unfold val; rw [if_pos (by omega)]; omega
    rw [hv]
    exact iter_end (end_np (i := 1 + 2) (by omega) (by omega) (by omega))
  · have hv : val s = 0 + DD s 1 * 3600 + DD s (1 + 2) * 60 := by unfold val; rw [if_neg (by omega), if_pos (by omega)]; omega
    rw [hv, iter_next (step_np (i := 1 + 2) (by omega) (by omega) (by omega) (by omega)), e2]
    exact iter_end (end_np (i := 1 + 2 + 2) (by omega) (by omega) (by omega))
  · have hv : val s = 0 + DD s 1 * 3600 + DD s (1 + 2) * 60 + DD s (1 + 2 + 2) * 1 := by unfold val; rw [if_neg (by omega), if_neg (by omega)]; omega
    rw [hv, iter_next (step_np (i := 1 + 2) (by omega) (by omega) (by omega) (by omega)), e2, iter_next (step_np (i := 1 + 2 + 2) (by omega) (by omega) (by omega) (by omega))]
    exact iter_end (end_np (i := 1 + 2 + 2 + 2) (by omega) (by omega) (by omega))
theorem parse_even {s : List UInt8} (h : ¬ odd s) (hl : s.length ≤ 100) : F_numeric_Parse [.s s] = some [.i 0, .i 5] := by
  unfold F_numeric_Parse
  unfold odd at h
  by_cases h1 : s.length < 3
  · simp (disch := omega) only [onI_c, onS_c, onB_c, onN_c, onL_c, Option.bind_some, Option.map_some, cond_true, cond_false, ↓onI_c, ↓onS_c, ↓onB_c, ↓onN_c, ↓onL_c, ↓Option.bind_some, ↓cond_true, ↓cond_false, decide_eq_true, decide_eq_false, Bool.not_true, Bool.not_false, Int.toNat_natCast, List.length_append, List.length_cons, List.length_nil, List.drop_zero, Nat.zero_add, Nat.add_zero, decT, decF, bneI_t, bneI_f]
  by_cases h2 : 7 < s.length
  · simp (disch := omega) only [onI_c, onS_c, onB_c, onN_c, onL_c, Option.bind_some, Option.map_some, cond_true, cond_false, ↓onI_c, ↓onS_c, ↓onB_c, ↓onN_c, ↓onL_c, ↓Option.bind_some, ↓cond_true, ↓cond_false, decide_eq_true, decide_eq_false, Bool.not_true, Bool.not_false, Int.toNat_natCast, List.length_append, List.length_cons, List.length_nil, List.drop_zero, Nat.zero_add, Nat.add_zero, decT, decF, bneI_t, bneI_f]
  have h3 : s.length = 4 ∨ s.length = 6 := by omega
  have hb3 : (Int.tmod (((s).length : Nat) : Int) 2 = 0) := by rw [tmod_nn (by omega)]; omega
  simp (disch := omega) only [onI_c, onS_c, onB_c, onN_c, onL_c, Option.bind_some, Option.map_some, cond_true, cond_false, ↓onI_c, ↓onS_c, ↓onB_c, ↓onN_c, ↓onL_c, ↓Option.bind_some, ↓cond_true, ↓cond_false, decide_eq_true, decide_eq_false, Bool.not_true, Bool.not_false, Int.toNat_natCast, List.length_append, List.length_cons, List.length_nil, List.drop_zero, Nat.zero_add, Nat.add_zero, decT, decF, bneI_t, bneI_f, hb3]

/-! What is printed is read. -/
theorem NB_cases {n : Int} (h : 0 ≤ n ∧ n ≤ 86399) (c : UInt8) :
    (n % 3600 = 0 ∧ c :: NB n = [c, dg (n / 3600 / 10), dg (n / 3600 % 10)]) ∨
    (n % 3600 ≠ 0 ∧ n % 60 = 0 ∧ c :: NB n = [c, dg (n / 3600 / 10), dg (n / 3600 % 10), dg (n / 60 % 60 / 10), dg (n / 60 % 60 % 10)]) ∨
    (n % 3600 ≠ 0 ∧ n % 60 ≠ 0 ∧ c :: NB n = [c, dg (n / 3600 / 10), dg (n / 3600 % 10), dg (n / 60 % 60 / 10), dg (n / 60 % 60 % 10), dg (n % 60 / 10), dg (n % 60 % 10)]) := by
  unfold NB two
  by_cases h1 : n % 3600 = 0
  · left; refine ⟨h1, ?_⟩; rw [if_pos h1]; rfl
  · by_cases h2 : n % 60 = 0
    · right; left; refine ⟨h1, h2, ?_⟩; rw [if_neg h1, if_pos h2]; rfl
    · right; right; refine ⟨h1, h2, ?_⟩; rw [if_neg h1, if_neg h2]; rfl
theorem DD_dg {s : List UInt8} {i : Nat} {p q : Int} (hp : 0 ≤ p ∧ p ≤ 9) (hq : 0 ≤ q ∧ q ≤ 9) (h1 : s.getD i 0 = dg p) (h2 : s.getD (i + 1) 0 = dg q) : DD s i = 10 * p + q := by
  unfold DD
  rw [h1, h2, dg_val hp, dg_val hq, u8_in _ (by omega), u8_in _ (by omega)]; omega
theorem val_NB {n : Int} (h : 0 ≤ n ∧ n ≤ 86399) (c : UInt8) : odd (c :: NB n) ∧ val (c :: NB n) = n := by
  rcases NB_cases h c with ⟨h1, e⟩ | ⟨h1, h2, e⟩ | ⟨h1, h2, e⟩
  · rw [e]
    refine ⟨.inl rfl, ?_⟩
    unfold val
    rw [if_pos (by show 3 < 5; omega), DD_dg (p := n / 3600 / 10) (q := n / 3600 % 10) (by omega) (by omega) rfl rfl]; omega
  · rw [e]
    refine ⟨.inr (.inl rfl), ?_⟩
    unfold val
    rw [if_neg (by show ¬ 5 < 5; omega), if_pos (by show 5 < 7; omega), DD_dg (p := n / 3600 / 10) (q := n / 3600 % 10) (by omega) (by omega) rfl rfl, DD_dg (p := n / 60 % 60 / 10) (q := n / 60 % 60 % 10) (by omega) (by omega) rfl rfl]; omega
  · rw [e]
    refine ⟨.inr (.inr rfl), ?_⟩
    unfold val
    rw [if_neg (by show ¬ 7 < 5; omega), if_neg (by show ¬ 7 < 7; omega), DD_dg (p := n / 3600 / 10) (q := n / 3600 % 10) (by omega) (by omega) rfl rfl, DD_dg (p := n / 60 % 60 / 10) (q := n / 60 % 60 % 10) (by omega) (by omega) rfl rfl, DD_dg (p := n % 60 / 10) (q := n % 60 % 10) (by omega) (by omega) rfl rfl]; omega
theorem NT_neg {n : Int} (h : 0 < n ∧ n ≤ 86399) : NT (-n) = 45 :: NB n := by
  unfold NT; rw [if_neg (by omega), if_neg (by omega), if_pos (by omega)]; congr 1; congr 1; omega
theorem NT_pos {n : Int} (h : 0 ≤ n ∧ n ≤ 86399) : NT n = 43 :: NB n := by
  unfold NT; rw [if_neg (by omega), if_neg (by omega), if_neg (by omega)]
theorem NT_out {x : Int} (h : x < -86399 ∨ 86399 < x) : NT x = [] := by
  unfold NT
  by_cases h1 : x < -86399
  · rw [if_pos h1]
  · rw [if_neg h1, if_pos (by omega)]
/-- A number leads back to its offset. -/
theorem NT_back {x : Int} (h : -86399 ≤ x ∧ x ≤ 86399) : odd (NT x) ∧ sgn (NT x) (val (NT x)) = x := by
  by_cases h0 : x < 0
  · obtain ⟨n, rfl⟩ : ∃ n, x = -n := ⟨-x, by omega⟩
    rw [NT_neg (by omega)]
    obtain ⟨h1, h2⟩ := val_NB (n := n) (by omega) 45
    refine ⟨h1, ?_⟩
    rw [h2]; rfl
  · rw [NT_pos (by omega)]
    obtain ⟨h1, h2⟩ := val_NB (n := x) (by omega) 43
    refine ⟨h1, ?_⟩
    rw [h2]; rfl
theorem NT_ne {x : Int} (h : -86399 ≤ x ∧ x ≤ 86399) : NT x ≠ [] := by
  intro e
  have := (NT_back h).1
  rw [e] at this; unfold odd at this; simp at this
theorem NT_inj {x y : Int} (hx : -86399 ≤ x ∧ x ≤ 86399) (h : NT x = NT y) : x = y := by
  have hy : -86399 ≤ y ∧ y ≤ 86399 := by
    by_cases q : y < -86399 ∨ 86399 < y
    · rw [NT_out q] at h; exact absurd h (NT_ne hx)
    · omega
  rw [← (NT_back hx).2, ← (NT_back hy).2, h]
theorem parse_NT {x : Int} (h : -86399 ≤ x ∧ x ≤ 86399) : F_numeric_Parse [.s (NT x)] = some [.i x, .i 0] := by
  obtain ⟨h1, h2⟩ := NT_back h
  rw [parse_odd h1]
  unfold fin
  rw [h2, if_pos rfl]
/-- Whatever it is that is no number is refused. -/
theorem parse_no {s : List UInt8} (hl : s.length ≤ 100) (h : ∀ x, -86399 ≤ x ∧ x ≤ 86399 → NT x ≠ s) : F_numeric_Parse [.s s] = some [.i 0, .i 5] := by
  by_cases ho : odd s
  · rw [parse_odd ho]
    unfold fin
    rw [if_neg]
    intro e
    by_cases q : sgn s (val s) < -86399 ∨ 86399 < sgn s (val s)
    · rw [NT_out q] at e; rw [← e] at ho; unfold odd at ho; simp at ho
    · exact h _ (by omega) e
  · exact parse_even ho hl
end Go.Proofs.Ytnfgmffcnmifkaa
