/-
  Numeric abbreviations: what stands for %z.
-/
import Derived.Test.YtnfgmffcnmifkaaMRefnum
import Derived.Test.YtnfgmffcnmifkaaMRulnum
namespace Go.Proofs.Ytnfgmffcnmifkaa
open Go.Ax
set_option linter.all false
set_option maxHeartbeats 8000000
attribute [local congr] cond_cong bind_cong onI_cong onB_cong onS_cong onN_cong onL_cong

theorem NT_len (x : Int) : (NT x).length ≤ 7 := by
  by_cases h : x < -86399 ∨ 86399 < x
  · rw [NT_out h]; simp
  · have := (NT_back (x := x) (by omega)).1
    unfold odd at this; omega
theorem NT_nil {x : Int} : NT x = [] ↔ x < -86399 ∨ 86399 < x := by
  constructor
  · intro h
    by_cases q : x < -86399 ∨ 86399 < x
    · exact q
    · exact absurd h (NT_ne (by omega))
  · exact NT_out
abbrev In64 (x : Int) : Prop := -9223372036854775808 ≤ x ∧ x ≤ 9223372036854775807
theorem sum_at {a b : Int} (ha : In64 a) (hb : In64 b) : F_numeric_sum [.i a, .i b] = some [.s (NT (a + b))] := by
  unfold In64 at ha hb
  unfold F_numeric_sum
  have hw := i64_eq (a + b)
  have hr : -9223372036854775808 ≤ i64 (a + b) ∧ i64 (a + b) ≤ 9223372036854775807 := by omega
  have ht := text_at hr
  by_cases hf : -9223372036854775808 ≤ a + b ∧ a + b ≤ 9223372036854775807
  · have e : i64 (a + b) = a + b := i64_in _ hf
    rw [e] at ht
    clear hw hr
    simp only [onI_c, e]
    by_cases h0 : b < 0
    · simp (disch := omega) only [onI_c, onS_c, onB_c, onN_c, onL_c, Option.bind_some, Option.map_some, cond_true, cond_false, ↓onI_c, ↓onS_c, ↓onB_c, ↓onN_c, ↓onL_c, ↓Option.bind_some, ↓cond_true, ↓cond_false, decide_eq_true, decide_eq_false, Bool.not_true, Bool.not_false, Int.toNat_natCast, List.length_append, List.length_cons, List.length_nil, List.drop_zero, Nat.zero_add, Nat.add_zero, decT, decF, bneI_t, bneI_f, ht]
    · simp (disch := omega) only [onI_c, onS_c, onB_c, onN_c, onL_c, Option.bind_some, Option.map_some, cond_true, cond_false, ↓onI_c, ↓onS_c, ↓onB_c, ↓onN_c, ↓onL_c, ↓Option.bind_some, ↓cond_true, ↓cond_false, decide_eq_true, decide_eq_false, Bool.not_true, Bool.not_false, Int.toNat_natCast, List.length_append, List.length_cons, List.length_nil, List.drop_zero, Nat.zero_add, Nat.add_zero, decT, decF, bneI_t, bneI_f, ht]
  · rw [NT_out (by omega)]
    generalize hn : i64 (a + b) = n at *
    clear ht
    simp only [onI_c, hn]
    by_cases h0 : b < 0
    · have : ¬ n < a := by omega
      simp (disch := omega) only [onI_c, onS_c, onB_c, onN_c, onL_c, Option.bind_some, Option.map_some, cond_true, cond_false, ↓onI_c, ↓onS_c, ↓onB_c, ↓onN_c, ↓onL_c, ↓Option.bind_some, ↓cond_true, ↓cond_false, decide_eq_true, decide_eq_false, Bool.not_true, Bool.not_false, Int.toNat_natCast, List.length_append, List.length_cons, List.length_nil, List.drop_zero, Nat.zero_add, Nat.add_zero, decT, decF, bneI_t, bneI_f]
    · have : n < a := by omega
      simp (disch := omega) only [onI_c, onS_c, onB_c, onN_c, onL_c, Option.bind_some, Option.map_some, cond_true, cond_false, ↓onI_c, ↓onS_c, ↓onB_c, ↓onN_c, ↓onL_c, ↓Option.bind_some, ↓cond_true, ↓cond_false, decide_eq_true, decide_eq_false, Bool.not_true, Bool.not_false, Int.toNat_natCast, List.length_append, List.length_cons, List.length_nil, List.drop_zero, Nat.zero_add, Nat.add_zero, decT, decF, bneI_t, bneI_f]
theorem rsum_at {a b : Int} (ha : In64 a) (hb : In64 b) : F_ref20_sum [.i a, .i b] = some [.s (NT (a + b))] := by
  unfold In64 at ha hb
  unfold F_ref20_sum
  by_cases h1 : 0 < b
  · have e1 : i64 (86399 - b) = 86399 - b := i64_in _ (by omega)
    by_cases h2 : 86399 - b < a
    · rw [NT_out (by omega)]
      simp (disch := omega) only [onI_c, onS_c, onB_c, onN_c, onL_c, Option.bind_some, Option.map_some, cond_true, cond_false, ↓onI_c, ↓onS_c, ↓onB_c, ↓onN_c, ↓onL_c, ↓Option.bind_some, ↓cond_true, ↓cond_false, decide_eq_true, decide_eq_false, Bool.not_true, Bool.not_false, Int.toNat_natCast, List.length_append, List.length_cons, List.length_nil, List.drop_zero, Nat.zero_add, Nat.add_zero, decT, decF, bneI_t, bneI_f, e1]
    · have e2 : i64 (a + b) = a + b := i64_in _ (by omega)
      have ht := rtext_at (x := a + b) (by omega)
      simp (disch := omega) only [onI_c, onS_c, onB_c, onN_c, onL_c, Option.bind_some, Option.map_some, cond_true, cond_false, ↓onI_c, ↓onS_c, ↓onB_c, ↓onN_c, ↓onL_c, ↓Option.bind_some, ↓cond_true, ↓cond_false, decide_eq_true, decide_eq_false, Bool.not_true, Bool.not_false, Int.toNat_natCast, List.length_append, List.length_cons, List.length_nil, List.drop_zero, Nat.zero_add, Nat.add_zero, decT, decF, bneI_t, bneI_f, e1, e2, ht]
  · by_cases h3 : b < 0
    · have e1 : i64 (-86399 - b) = -86399 - b := i64_in _ (by omega)
      by_cases h2 : a < -86399 - b
      · rw [NT_out (by omega)]
        simp (disch := omega) only [onI_c, onS_c, onB_c, onN_c, onL_c, Option.bind_some, Option.map_some, cond_true, cond_false, ↓onI_c, ↓onS_c, ↓onB_c, ↓onN_c, ↓onL_c, ↓Option.bind_some, ↓cond_true, ↓cond_false, decide_eq_true, decide_eq_false, Bool.not_true, Bool.not_false, Int.toNat_natCast, List.length_append, List.length_cons, List.length_nil, List.drop_zero, Nat.zero_add, Nat.add_zero, decT, decF, bneI_t, bneI_f, e1]
      · have e2 : i64 (a + b) = a + b := i64_in _ (by omega)
        have ht := rtext_at (x := a + b) (by omega)
        simp (disch := omega) only [onI_c, onS_c, onB_c, onN_c, onL_c, Option.bind_some, Option.map_some, cond_true, cond_false, ↓onI_c, ↓onS_c, ↓onB_c, ↓onN_c, ↓onL_c, ↓Option.bind_some, ↓cond_true, ↓cond_false, decide_eq_true, decide_eq_false, Bool.not_true, Bool.not_false, Int.toNat_natCast, List.length_append, List.length_cons, List.length_nil, List.drop_zero, Nat.zero_add, Nat.add_zero, decT, decF, bneI_t, bneI_f, e1, e2, ht]
    · have e2 : i64 (a + b) = a + b := i64_in _ (by omega)
      have ht := rtext_at (x := a + b) (by omega)
      simp (disch := omega) only [onI_c, onS_c, onB_c, onN_c, onL_c, Option.bind_some, Option.map_some, cond_true, cond_false, ↓onI_c, ↓onS_c, ↓onB_c, ↓onN_c, ↓onL_c, ↓Option.bind_some, ↓cond_true, ↓cond_false, decide_eq_true, decide_eq_false, Bool.not_true, Bool.not_false, Int.toNat_natCast, List.length_append, List.length_cons, List.length_nil, List.drop_zero, Nat.zero_add, Nat.add_zero, decT, decF, bneI_t, bneI_f, e2, ht]

/-- One number, or two, with a slash between them; an error where one is missing. -/
def J1 (s : List UInt8) : List Dat := if s = [] then [.s [], .i 3] else [.s s, .i 0]
def J2 (s t : List UInt8) : List Dat := if s = [] then [.s [], .i 3] else if t = [] then [.s [], .i 3] else [.s (s ++ 47 :: t), .i 0]
theorem join1_at {s : List UInt8} (h : s.length ≤ 7) : F_numeric_join [.n 1, .l [.str (.sym s)]] = some (J1 s) := by
  unfold F_numeric_join J1
  simp only [onN_c, onL_c]
  have a0 : asS ([AV.str (.sym s)][((0 : Int)).toNat]?) = some s := rfl
  by_cases hs : s = []
  · rw [if_pos hs]
    refine iter_end ?_
    unfold F_numeric_join_L0
    simp (disch := omega) only [onI_c, onS_c, onB_c, onN_c, onL_c, Option.bind_some, Option.map_some, cond_true, cond_false, ↓onI_c, ↓onS_c, ↓onB_c, ↓onN_c, ↓onL_c, ↓Option.bind_some, ↓cond_true, ↓cond_false, decide_eq_true, decide_eq_false, Bool.not_true, Bool.not_false, Int.toNat_natCast, List.length_append, List.length_cons, List.length_nil, List.drop_zero, Nat.zero_add, Nat.add_zero, decT, decF, bneI_t, bneI_f, a0, beq_t hs]
  · rw [if_neg hs]
    have e1 : i64 (0 + 1) = 1 := rfl
    have st : F_numeric_join_L0 [.n 1, .l [.str (.sym s)], .n 1, .l [.str (.sym s)], .i (((1 : Nat) : Int)), .i 0] = some (.inl [.n 1, .l [.str (.sym s)], .n 1, .l [.str (.sym s)], .i (((1 : Nat) : Int)), .i 1]) := by
      unfold F_numeric_join_L0
      simp (disch := omega) only [onI_c, onS_c, onB_c, onN_c, onL_c, Option.bind_some, Option.map_some, cond_true, cond_false, ↓onI_c, ↓onS_c, ↓onB_c, ↓onN_c, ↓onL_c, ↓Option.bind_some, ↓cond_true, ↓cond_false, decide_eq_true, decide_eq_false, Bool.not_true, Bool.not_false, Int.toNat_natCast, List.length_append, List.length_cons, List.length_nil, List.drop_zero, Nat.zero_add, Nat.add_zero, decT, decF, bneI_t, bneI_f, a0, beq_f hs, e1]
    rw [iter_next st]
    refine iter_end ?_
    have hj : strJoin [.n 1, .l [.str (.sym s)], .s [47]] = some [.s s] := by
      unfold strJoin
      simp only [onN_c, onL_c, onS_c, strsOf, Option.map_some, Option.bind_some, Lib.join_one, S.v]
      rw [if_pos ⟨rfl, by omega, by omega⟩]
    unfold F_numeric_join_L0
    simp (disch := omega) only [onI_c, onS_c, onB_c, onN_c, onL_c, Option.bind_some, Option.map_some, cond_true, cond_false, ↓onI_c, ↓onS_c, ↓onB_c, ↓onN_c, ↓onL_c, ↓Option.bind_some, ↓cond_true, ↓cond_false, decide_eq_true, decide_eq_false, Bool.not_true, Bool.not_false, Int.toNat_natCast, List.length_append, List.length_cons, List.length_nil, List.drop_zero, Nat.zero_add, Nat.add_zero, decT, decF, bneI_t, bneI_f, hj]
theorem join2_at {s t : List UInt8} (h : s.length ≤ 7) (h' : t.length ≤ 7) : F_numeric_join [.n 2, .l [.str (.sym s), .str (.sym t)]] = some (J2 s t) := by
  unfold F_numeric_join J2
  simp only [onN_c, onL_c]
  have a0 : asS ([AV.str (.sym s), AV.str (.sym t)][((0 : Int)).toNat]?) = some s := rfl
  have a1 : asS ([AV.str (.sym s), AV.str (.sym t)][((1 : Int)).toNat]?) = some t := rfl
  by_cases hs : s = []
  · rw [if_pos hs]
    refine iter_end ?_
    unfold F_numeric_join_L0
    simp (disch := omega) only [onI_c, onS_c, onB_c, onN_c, onL_c, Option.bind_some, Option.map_some, cond_true, cond_false, ↓onI_c, ↓onS_c, ↓onB_c, ↓onN_c, ↓onL_c, ↓Option.bind_some, ↓cond_true, ↓cond_false, decide_eq_true, decide_eq_false, Bool.not_true, Bool.not_false, Int.toNat_natCast, List.length_append, List.length_cons, List.length_nil, List.drop_zero, Nat.zero_add, Nat.add_zero, decT, decF, bneI_t, bneI_f, a0, beq_t hs]
  · rw [if_neg hs]
    have e1 : i64 (0 + 1) = 1 := rfl
    have e2 : i64 (1 + 1) = 2 := rfl
    have st : F_numeric_join_L0 [.n 2, .l [.str (.sym s), .str (.sym t)], .n 2, .l [.str (.sym s), .str (.sym t)], .i (((2 : Nat) : Int)), .i 0] = some (.inl [.n 2, .l [.str (.sym s), .str (.sym t)], .n 2, .l [.str (.sym s), .str (.sym t)], .i (((2 : Nat) : Int)), .i 1]) := by
      unfold F_numeric_join_L0
      simp (disch := omega) only [onI_c, onS_c, onB_c, onN_c, onL_c, Option.bind_some, Option.map_some, cond_true, cond_false, ↓onI_c, ↓onS_c, ↓onB_c, ↓onN_c, ↓onL_c, ↓Option.bind_some, ↓cond_true, ↓cond_false, decide_eq_true, decide_eq_false, Bool.not_true, Bool.not_false, Int.toNat_natCast, List.length_append, List.length_cons, List.length_nil, List.drop_zero, Nat.zero_add, Nat.add_zero, decT, decF, bneI_t, bneI_f, a0, beq_f hs, e1]
    rw [iter_next st]
    by_cases ht : t = []
    · rw [if_pos ht]
      refine iter_end ?_
      unfold F_numeric_join_L0
      simp (disch := omega) only [onI_c, onS_c, onB_c, onN_c, onL_c, Option.bind_some, Option.map_some, cond_true, cond_false, ↓onI_c, ↓onS_c, ↓onB_c, ↓onN_c, ↓onL_c, ↓Option.bind_some, ↓cond_true, ↓cond_false, decide_eq_true, decide_eq_false, Bool.not_true, Bool.not_false, Int.toNat_natCast, List.length_append, List.length_cons, List.length_nil, List.drop_zero, Nat.zero_add, Nat.add_zero, decT, decF, bneI_t, bneI_f, a1, beq_t ht]
    · rw [if_neg ht]
      have st2 : F_numeric_join_L0 [.n 2, .l [.str (.sym s), .str (.sym t)], .n 2, .l [.str (.sym s), .str (.sym t)], .i (((2 : Nat) : Int)), .i 1] = some (.inl [.n 2, .l [.str (.sym s), .str (.sym t)], .n 2, .l [.str (.sym s), .str (.sym t)], .i (((2 : Nat) : Int)), .i 2]) := by
        unfold F_numeric_join_L0
        simp (disch := omega) only [onI_c, onS_c, onB_c, onN_c, onL_c, Option.bind_some, Option.map_some, cond_true, cond_false, ↓onI_c, ↓onS_c, ↓onB_c, ↓onN_c, ↓onL_c, ↓Option.bind_some, ↓cond_true, ↓cond_false, decide_eq_true, decide_eq_false, Bool.not_true, Bool.not_false, Int.toNat_natCast, List.length_append, List.length_cons, List.length_nil, List.drop_zero, Nat.zero_add, Nat.add_zero, decT, decF, bneI_t, bneI_f, a1, beq_f ht, e2]
      rw [iter_next st2]
      refine iter_end ?_
      have hj : strJoin [.n 2, .l [.str (.sym s), .str (.sym t)], .s [47]] = some [.s (s ++ 47 :: t)] := by
        have e : Lib.join [s, t] [47] = s ++ 47 :: t := by simp [Lib.join, List.intercalate]
        unfold strJoin
        simp only [onN_c, onL_c, onS_c, strsOf, Option.map_some, Option.bind_some, S.v, e]
        rw [if_pos ⟨rfl, by omega, by simp; omega⟩]
      unfold F_numeric_join_L0
      simp (disch := omega) only [onI_c, onS_c, onB_c, onN_c, onL_c, Option.bind_some, Option.map_some, cond_true, cond_false, ↓onI_c, ↓onS_c, ↓onB_c, ↓onN_c, ↓onL_c, ↓Option.bind_some, ↓cond_true, ↓cond_false, decide_eq_true, decide_eq_false, Bool.not_true, Bool.not_false, Int.toNat_natCast, List.length_append, List.length_cons, List.length_nil, List.drop_zero, Nat.zero_add, Nat.add_zero, decT, decF, bneI_t, bneI_f, hj]

/-! The one other save. -/
def oth : Int → List Rul → Int × Bool
  | x, [] => (x, decide (x ≠ 0))
  | x, r :: rs => if r.fSave = 0 ∨ r.fSave = x then oth x rs else if x ≠ 0 then (0, false) else oth r.fSave rs
def sav (rs : List Rul) : Bool := rs.any fun r => decide (r.fSave ≠ 0)
theorem drop_getE {rs : List Rul} {i : Nat} {r : Rul} {t : List Rul} (h : rs.drop i = r :: t) : rs[i]? = some r ∧ rs.drop (i + 1) = t ∧ i < rs.length := by
  have h1 : rs[i]? = some r := by
    have := List.getElem?_drop (xs := rs) (i := i) (j := 0)
    rw [h] at this; simpa using this.symm
  refine ⟨h1, ?_, (List.getElem?_eq_some_iff.1 h1).1⟩
  rw [← List.drop_drop, h]; rfl
theorem drop_nilE {rs : List Rul} {i : Nat} (h : rs.drop i = []) : rs.length ≤ i := by
  have := List.length_drop (i := i) (l := rs)
  rw [h] at this; simp at this; omega
theorem other_loop {c : List AV} {rs : List Rul} (hr : Rul.Rep c rs) (hl : rs.length ≤ 1000000) : ∀ (t : List Rul) (i : Nat) (x : Int), rs.drop i = t →
    iter F_ruleset_Other_L0 [.i x, .n rs.length, .l c, .i ((rs.length : Nat) : Int), .i (i : Int)] = some [.i (oth x t).1, .b (oth x t).2] := by
  intro t
  induction t with
  | nil =>
    intro i x h
    have := drop_nilE h
    refine iter_end ?_
    unfold F_ruleset_Other_L0 oth
    by_cases hx : x = 0
    · subst hx; simp (disch := omega) only [onI_c, onS_c, onB_c, onN_c, onL_c, Option.bind_some, Option.map_some, cond_true, cond_false, ↓onI_c, ↓onS_c, ↓onB_c, ↓onN_c, ↓onL_c, ↓Option.bind_some, ↓cond_true, ↓cond_false, decide_eq_true, decide_eq_false, Bool.not_true, Bool.not_false, Int.toNat_natCast, List.length_append, List.length_cons, List.length_nil, List.drop_zero, Nat.zero_add, Nat.add_zero, decT, decF, bneI_t, bneI_f]; try rfl
    · rw [decide_eq_true hx]; simp (disch := omega) only [onI_c, onS_c, onB_c, onN_c, onL_c, Option.bind_some, Option.map_some, cond_true, cond_false, ↓onI_c, ↓onS_c, ↓onB_c, ↓onN_c, ↓onL_c, ↓Option.bind_some, ↓cond_true, ↓cond_false, decide_eq_true, decide_eq_false, Bool.not_true, Bool.not_false, Int.toNat_natCast, List.length_append, List.length_cons, List.length_nil, List.drop_zero, Nat.zero_add, Nat.add_zero, decT, decF, bneI_t, bneI_f, hx]
  | cons r t ih =>
    intro i x h
    obtain ⟨h1, h2, h3⟩ := drop_getE h
    obtain ⟨r0, r1, r2, r3, r4, r5, r6, r7, r8, r9, r10⟩ := hr.at_ i r h1
    have e1 : i64 ((i : Int) + 1) = ((i + 1 : Nat) : Int) := by rw [i64_in _ (by omega)]; omega
    clear hr h1 h
    unfold oth
    by_cases q : r.fSave = 0 ∨ r.fSave = x
    · rw [if_pos q, ← ih (i + 1) x h2]
      refine iter_next ?_
      have hb : (bif (decide (r.fSave = 0)) then (some true) else (bif (decide (r.fSave = x)) then (some true) else (some false))) = some true := by
        rcases q with q | q
        · rw [decide_eq_true q]; rfl
        · rw [decide_eq_true q]; cases decide (r.fSave = 0) <;> rfl
      clear ih q h2
      unfold F_ruleset_Other_L0
      simp (disch := omega) only [onI_c, onS_c, onB_c, onN_c, onL_c, Option.bind_some, Option.map_some, cond_true, cond_false, ↓onI_c, ↓onS_c, ↓onB_c, ↓onN_c, ↓onL_c, ↓Option.bind_some, ↓cond_true, ↓cond_false, decide_eq_true, decide_eq_false, Bool.not_true, Bool.not_false, Int.toNat_natCast, List.length_append, List.length_cons, List.length_nil, List.drop_zero, Nat.zero_add, Nat.add_zero, decT, decF, bneI_t, bneI_f, List.drop_drop, List.getElem?_drop, Nat.add_assoc, Nat.reduceAdd, r0, r1, r2, r3, r4, r5, r6, r7, r8, r9, r10, e1, hb]
    · rw [if_neg q]
      have q1 : ¬ r.fSave = 0 := fun e => q (.inl e)
      have q2 : ¬ r.fSave = x := fun e => q (.inr e)
      by_cases hx : x = 0
      · rw [if_neg (by simpa using hx), ← ih (i + 1) r.fSave h2]
        refine iter_next ?_
        clear ih q h2
        unfold F_ruleset_Other_L0
        simp (disch := omega) only [onI_c, onS_c, onB_c, onN_c, onL_c, Option.bind_some, Option.map_some, cond_true, cond_false, ↓onI_c, ↓onS_c, ↓onB_c, ↓onN_c, ↓onL_c, ↓Option.bind_some, ↓cond_true, ↓cond_false, decide_eq_true, decide_eq_false, Bool.not_true, Bool.not_false, Int.toNat_natCast, List.length_append, List.length_cons, List.length_nil, List.drop_zero, Nat.zero_add, Nat.add_zero, decT, decF, bneI_t, bneI_f, List.drop_drop, List.getElem?_drop, Nat.add_assoc, Nat.reduceAdd, r0, r1, r2, r3, r4, r5, r6, r7, r8, r9, r10, e1, q1, q2]
      · rw [if_pos hx]
        refine iter_end ?_
        clear ih q h2
        unfold F_ruleset_Other_L0
        simp (disch := omega) only [onI_c, onS_c, onB_c, onN_c, onL_c, Option.bind_some, Option.map_some, cond_true, cond_false, ↓onI_c, ↓onS_c, ↓onB_c, ↓onN_c, ↓onL_c, ↓Option.bind_some, ↓cond_true, ↓cond_false, decide_eq_true, decide_eq_false, Bool.not_true, Bool.not_false, Int.toNat_natCast, List.length_append, List.length_cons, List.length_nil, List.drop_zero, Nat.zero_add, Nat.add_zero, decT, decF, bneI_t, bneI_f, List.drop_drop, List.getElem?_drop, Nat.add_assoc, Nat.reduceAdd, r0, r1, r2, r3, r4, r5, r6, r7, r8, r9, r10, e1, q1, q2, hx]
theorem other_at {c : List AV} {rs : List Rul} (hr : Rul.Rep c rs) (hl : rs.length ≤ 1000000) : F_ruleset_Other [.n rs.length, .l c] = some [.i (oth 0 rs).1, .b (oth 0 rs).2] := by
  unfold F_ruleset_Other
  simp only [onN_c, onL_c]
  exact other_loop hr hl rs 0 0 (by rw [List.drop_zero])
theorem rother_loop {c : List AV} {rs : List Rul} (hr : Rul.Rep c rs) (hl : rs.length ≤ 1000000) : ∀ (t : List Rul) (i : Nat) (x : Int), rs.drop i = t →
    iter F_ref16_Other_L0 [.n rs.length, .l c, .i x, .i (i : Int)] = some [.i (oth x t).1, .b (oth x t).2] := by
  intro t
  induction t with
  | nil =>
    intro i x h
    have := drop_nilE h
    refine iter_end ?_
    unfold F_ref16_Other_L0 oth
    by_cases hx : x = 0
    · subst hx; simp (disch := omega) only [onI_c, onS_c, onB_c, onN_c, onL_c, Option.bind_some, Option.map_some, cond_true, cond_false, ↓onI_c, ↓onS_c, ↓onB_c, ↓onN_c, ↓onL_c, ↓Option.bind_some, ↓cond_true, ↓cond_false, decide_eq_true, decide_eq_false, Bool.not_true, Bool.not_false, Int.toNat_natCast, List.length_append, List.length_cons, List.length_nil, List.drop_zero, Nat.zero_add, Nat.add_zero, decT, decF, bneI_t, bneI_f]; try rfl
    · rw [decide_eq_true hx]; simp (disch := omega) only [onI_c, onS_c, onB_c, onN_c, onL_c, Option.bind_some, Option.map_some, cond_true, cond_false, ↓onI_c, ↓onS_c, ↓onB_c, ↓onN_c, ↓onL_c, ↓Option.bind_some, ↓cond_true, ↓cond_false, decide_eq_true, decide_eq_false, Bool.not_true, Bool.not_false, Int.toNat_natCast, List.length_append, List.length_cons, List.length_nil, List.drop_zero, Nat.zero_add, Nat.add_zero, decT, decF, bneI_t, bneI_f, hx]
  | cons r t ih =>
    intro i x h
    obtain ⟨h1, h2, h3⟩ := drop_getE h
    obtain ⟨r0, r1, r2, r3, r4, r5, r6, r7, r8, r9, r10⟩ := hr.at_ i r h1
    have e1 : i64 ((i : Int) + 1) = ((i + 1 : Nat) : Int) := by rw [i64_in _ (by omega)]; omega
    clear hr h1 h r0 r1 r2 r3 r4 r5 r6 r7 r8 r10
    unfold oth
    by_cases q1 : r.fSave = 0
    · rw [if_pos (.inl q1), ← ih (i + 1) x h2]
      refine iter_next ?_
      clear ih h2
      unfold F_ref16_Other_L0
      simp (disch := omega) only [onI_c, onS_c, onB_c, onN_c, onL_c, Option.bind_some, Option.map_some, cond_true, cond_false, ↓onI_c, ↓onS_c, ↓onB_c, ↓onN_c, ↓onL_c, ↓Option.bind_some, ↓cond_true, ↓cond_false, decide_eq_true, decide_eq_false, Bool.not_true, Bool.not_false, Int.toNat_natCast, List.length_append, List.length_cons, List.length_nil, List.drop_zero, Nat.zero_add, Nat.add_zero, decT, decF, bneI_t, bneI_f, r9, e1, q1]
    · by_cases q2 : r.fSave = x
      · rw [if_pos (.inr q2), ← ih (i + 1) x h2]
        refine iter_next ?_
        clear ih h2
        unfold F_ref16_Other_L0
        rw [q2] at r9 q1
        simp (disch := omega) only [onI_c, onS_c, onB_c, onN_c, onL_c, Option.bind_some, Option.map_some, cond_true, cond_false, ↓onI_c, ↓onS_c, ↓onB_c, ↓onN_c, ↓onL_c, ↓Option.bind_some, ↓cond_true, ↓cond_false, decide_eq_true, decide_eq_false, Bool.not_true, Bool.not_false, Int.toNat_natCast, List.length_append, List.length_cons, List.length_nil, List.drop_zero, Nat.zero_add, Nat.add_zero, decT, decF, bneI_t, bneI_f, r9, e1, q1, q2]
      · rw [if_neg (by omega)]
        by_cases hx : x = 0
        · rw [if_neg (by simpa using hx), ← ih (i + 1) r.fSave h2]
          refine iter_next ?_
          clear ih h2
          unfold F_ref16_Other_L0
          simp (disch := omega) only [onI_c, onS_c, onB_c, onN_c, onL_c, Option.bind_some, Option.map_some, cond_true, cond_false, ↓onI_c, ↓onS_c, ↓onB_c, ↓onN_c, ↓onL_c, ↓Option.bind_some, ↓cond_true, ↓cond_false, decide_eq_true, decide_eq_false, Bool.not_true, Bool.not_false, Int.toNat_natCast, List.length_append, List.length_cons, List.length_nil, List.drop_zero, Nat.zero_add, Nat.add_zero, decT, decF, bneI_t, bneI_f, r9, e1, q1, q2, hx]
        · rw [if_pos hx]
          refine iter_end ?_
          clear ih h2
          unfold F_ref16_Other_L0
          simp (disch := omega) only [onI_c, onS_c, onB_c, onN_c, onL_c, Option.bind_some, Option.map_some, cond_true, cond_false, ↓onI_c, ↓onS_c, ↓onB_c, ↓onN_c, ↓onL_c, ↓Option.bind_some, ↓cond_true, ↓cond_false, decide_eq_true, decide_eq_false, Bool.not_true, Bool.not_false, Int.toNat_natCast, List.length_append, List.length_cons, List.length_nil, List.drop_zero, Nat.zero_add, Nat.add_zero, decT, decF, bneI_t, bneI_f, r9, e1, q1, q2, hx]
theorem rother_at {c : List AV} {rs : List Rul} (hr : Rul.Rep c rs) (hl : rs.length ≤ 1000000) : F_ref16_Other [.n rs.length, .l c] = some [.i (oth 0 rs).1, .b (oth 0 rs).2] := by
  unfold F_ref16_Other
  simp only [onN_c, onL_c]
  exact rother_loop hr hl rs 0 0 (by rw [List.drop_zero])
theorem saved_loop {c : List AV} {rs : List Rul} (hr : Rul.Rep c rs) (hl : rs.length ≤ 1000000) : ∀ (t : List Rul) (i : Nat), rs.drop i = t →
    iter F_numeric_saved_L0 [.n rs.length, .l c, .i ((rs.length : Nat) : Int), .i (i : Int)] = some [.b (sav t)] := by
  intro t
  induction t with
  | nil =>
    intro i h
    have := drop_nilE h
    refine iter_end ?_
    unfold F_numeric_saved_L0
    simp (disch := omega) only [onI_c, onS_c, onB_c, onN_c, onL_c, Option.bind_some, Option.map_some, cond_true, cond_false, ↓onI_c, ↓onS_c, ↓onB_c, ↓onN_c, ↓onL_c, ↓Option.bind_some, ↓cond_true, ↓cond_false, decide_eq_true, decide_eq_false, Bool.not_true, Bool.not_false, Int.toNat_natCast, List.length_append, List.length_cons, List.length_nil, List.drop_zero, Nat.zero_add, Nat.add_zero, decT, decF, bneI_t, bneI_f]
    rfl
  | cons r t ih =>
    intro i h
    obtain ⟨h1, h2, h3⟩ := drop_getE h
    obtain ⟨r0, r1, r2, r3, r4, r5, r6, r7, r8, r9, r10⟩ := hr.at_ i r h1
    have e1 : i64 ((i : Int) + 1) = ((i + 1 : Nat) : Int) := by rw [i64_in _ (by omega)]; omega
    clear hr h1 h
    by_cases q : r.fSave = 0
    · have : sav (r :: t) = sav t := by unfold sav; rw [List.any_cons, decide_eq_false (by simpa using q)]; rfl
      rw [this, ← ih (i + 1) h2]
      refine iter_next ?_
      clear ih h2
      unfold F_numeric_saved_L0
      simp (disch := omega) only [onI_c, onS_c, onB_c, onN_c, onL_c, Option.bind_some, Option.map_some, cond_true, cond_false, ↓onI_c, ↓onS_c, ↓onB_c, ↓onN_c, ↓onL_c, ↓Option.bind_some, ↓cond_true, ↓cond_false, decide_eq_true, decide_eq_false, Bool.not_true, Bool.not_false, Int.toNat_natCast, List.length_append, List.length_cons, List.length_nil, List.drop_zero, Nat.zero_add, Nat.add_zero, decT, decF, bneI_t, bneI_f, List.drop_drop, List.getElem?_drop, Nat.add_assoc, Nat.reduceAdd, r0, r1, r2, r3, r4, r5, r6, r7, r8, r9, r10, e1, q]
    · have : sav (r :: t) = true := by unfold sav; rw [List.any_cons, decide_eq_true q]; rfl
      rw [this]
      refine iter_end ?_
      clear ih h2
      unfold F_numeric_saved_L0
      simp (disch := omega) only [onI_c, onS_c, onB_c, onN_c, onL_c, Option.bind_some, Option.map_some, cond_true, cond_false, ↓onI_c, ↓onS_c, ↓onB_c, ↓onN_c, ↓onL_c, ↓Option.bind_some, ↓cond_true, ↓cond_false, decide_eq_true, decide_eq_false, Bool.not_true, Bool.not_false, Int.toNat_natCast, List.length_append, List.length_cons, List.length_nil, List.drop_zero, Nat.zero_add, Nat.add_zero, decT, decF, bneI_t, bneI_f, List.drop_drop, List.getElem?_drop, Nat.add_assoc, Nat.reduceAdd, r0, r1, r2, r3, r4, r5, r6, r7, r8, r9, r10, e1, q]
theorem saved_at {c : List AV} {rs : List Rul} (hr : Rul.Rep c rs) (hl : rs.length ≤ 1000000) : F_numeric_saved [.n rs.length, .l c] = some [.b (sav rs)] := by
  unfold F_numeric_saved
  simp only [onN_c, onL_c]
  exact saved_loop hr hl rs 0 (by rw [List.drop_zero])
end Go.Proofs.Ytnfgmffcnmifkaa
