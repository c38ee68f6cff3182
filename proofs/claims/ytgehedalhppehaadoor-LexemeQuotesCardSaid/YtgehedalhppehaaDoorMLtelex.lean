/-
  Lines: texts out of lines.
-/
import Derived.Test.YtgehedalhppehaaDoorMLnblex
namespace Go.Proofs.YtgehedalhppehaaDoor
open Go.Ax Go.Lib
set_option linter.all false
set_option maxHeartbeats 4000000
set_option maxRecDepth 100000
attribute [local congr] cond_cong bind_cong onI_cong onB_cong onS_cong onN_cong onL_cong

theorem join_two (x y : List UInt8) (r : List (List UInt8)) : join (x :: y :: r) [10] = x ++ 10 :: join (y :: r) [10] := by
  rw [join_cons, join_cons]
  simp [joinTail]
theorem join_spl : ∀ (n : Nat) (s : List UInt8), s.length ≤ n → join (spl s) [10] = s := by
  intro n
  induction n with
  | zero =>
    intro s hs
    have : s = [] := List.eq_nil_of_length_eq_zero (by omega)
    subst this
    exact join_one _ _
  | succ n ih =>
    intro s hs
    rcases first10 s with h | ⟨a, t, rfl, ha⟩
    · rw [spl_none h, join_one]
    · rw [spl_app ha]
      have h2 := ih t (by simp at hs; omega)
      cases ht : spl t with
      | nil => exact absurd ht (spl_ne t)
      | cons y r => rw [join_two, ← ht, h2]
theorem spl_end : ∀ u : List UInt8, spl (u ++ [10]) = spl u ++ [[]]
  | [] => rfl
  | c :: u => by
    have ih := spl_end u
    rw [List.cons_append]
    unfold spl
    by_cases hc : c = 10
    · rw [if_pos hc, if_pos hc, ih]; rfl
    · rw [if_neg hc, if_neg hc, ih]
      cases hu : spl u with
      | nil => exact absurd hu (spl_ne u)
      | cons l ls => rfl
theorem spl_mem : ∀ {s x : List UInt8}, x ∈ spl s → (10 : UInt8) ∉ x
  | [], x, h => by
    have : x = [] := by simpa [spl] using h
    rw [this]; simp
  | c :: t, x, h => by
    unfold spl at h
    by_cases hc : c = 10
    · rw [if_pos hc] at h
      rcases List.mem_cons.1 h with rfl | h
      · simp
      · exact spl_mem h
    · rw [if_neg hc] at h
      cases ht : spl t with
      | nil => exact absurd ht (spl_ne t)
      | cons l ls =>
        rw [ht] at h
        rcases List.mem_cons.1 h with rfl | h
        · have := spl_mem (s := t) (x := l) (by rw [ht]; exact List.mem_cons_self ..)
          intro q
          rcases List.mem_cons.1 q with q | q
          · exact hc q.symm
          · exact this q
        · exact spl_mem (s := t) (by rw [ht]; exact List.mem_cons_of_mem _ h)
theorem lg_app : ∀ (xs : List (List UInt8)) (k : Nat), lg k (xs ++ [[]]) = lg k xs
  | [], k => rfl
  | x :: xs, k => by
    rw [List.cons_append, lg, lg, lg_app xs]
theorem lg_trim (s : List UInt8) (k : Nat) : lg k (spl s) = lg k (spl (trimV s)) := by
  unfold trimV
  split
  · rename_i h
    have hne : s ≠ [] := by intro e; rw [e] at h; simp at h
    have e : s = s.dropLast ++ [10] := by
      conv => lhs; rw [← List.dropLast_concat_getLast hne]
      rw [List.getLast?_eq_some_getLast hne] at h
      rw [Option.some.inj h]
    conv => lhs; rw [e, spl_end, lg_app]
  · rfl
theorem trim_end (t : List UInt8) : trimV (t ++ [10]) = t := by
  unfold trimV; simp
theorem lg_none : ∀ {xs : List (List UInt8)} {k : Nat}, lg k xs = none → ∀ x ∈ xs, ¬ 300 < x.length
  | [], k, h, x, hx => by simp at hx
  | y :: xs, k, h, x, hx => by
    rw [lg] at h
    split at h
    · cases h
    · rename_i hy
      rcases List.mem_cons.1 hx with rfl | hx
      · exact hy
      · exact lg_none h x hx
theorem lg_ge : ∀ {xs : List (List UInt8)} {k j : Nat}, lg k xs = some j → k ≤ j ∧ j < k + xs.length
  | [], k, j, h => by cases h
  | y :: xs, k, j, h => by
    rw [lg] at h
    split at h
    · cases h; simp
    · have := lg_ge h; simp; omega

theorem contains_no {x : List UInt8} (h : (10 : UInt8) ∉ x) (hl : x.length < 4294967281) : F_strings_Contains [.s x, .s [10]] = some [.b false] := by
  have e := sidx_no h hl
  unfold F_strings_Contains
  simp (disch := omega) only [onI_c, onS_c, onB_c, onN_c, onL_c, Option.bind_some, Option.map_some, cond_true, cond_false, ↓onI_c, ↓onS_c, ↓onB_c, ↓onN_c, ↓onL_c, ↓Option.bind_some, ↓cond_true, ↓cond_false, decide_eq_true, decide_eq_false, Bool.not_true, Bool.not_false, Int.toNat_natCast, List.length_append, List.length_cons, List.length_nil, List.drop_zero, Nat.zero_add, Nat.add_zero, decT, decF, bneI_t, bneI_f, e]

/-- What comes behind a text whose lines are all short enough. -/
theorem text_tail {s : List UInt8} (hs : s.length ≤ 2000) {xs : List (List UInt8)} (hx : xs = spl (trimV s)) (hlg : lg 0 xs = none) {l : List AV} (h : strsOf l = some xs) {f : List Dat → Option (List Dat ⊕ List Dat)}
    (hf : f = F_law05_LexemeText_L1 ∨ f = F_law05_LexemeText_L2) : ∀ (m i : Nat), i + m = xs.length → iter f [.n xs.length, .l l, .n xs.length, .l l, .i ((xs.length : Nat) : Int), .i ((i : Nat) : Int)] = some [.b true] := by
  have hw : F_law05_works [] = some [.b true] := rfl
  have ht := trimV_length s
  have hcnt : xs.length ≤ 2001 := by rw [hx, spl_length]; have := List.count_le_length (a := (10 : UInt8)) (l := trimV s); omega
  have hj : join xs [10] = trimV s := by rw [hx]; exact join_spl _ _ (Nat.le_refl _)
  have hll := strsOf_len h
  have e1 : strJoin [.n xs.length, .l l, .s [10]] = some [.s (trimV s)] := by
    unfold strJoin
    simp only [onN_c, onL_c, onS_c]
    rw [h, Option.bind_some, hj, if_pos ⟨by omega, by omega, by omega⟩]
  obtain ⟨r, h1, h2⟩ := lines_at (s := trimV s ++ [10]) (by simp; omega)
  have e2 : linesV (trimV s ++ [10]) = (xs, 0, 0) := by
    unfold linesV
    rw [if_neg (by simp; omega), trim_end, ← hx]
    unfold fin
    rw [show ([] : List (List UInt8)).length = 0 from rfl, hlg]; rfl
  rw [e2] at h1 h2
  dsimp only at h1 h2
  have e3 := equal_at h2 h rfl rfl (by omega)
  rw [decide_eq_true rfl] at e3
  intro m
  induction m with
  | zero =>
    intro i hi
    refine iter_end ?_
    rcases hf with rfl | rfl
    · unfold F_law05_LexemeText_L1
      clear hx hj h h2 hlg
      simp (disch := omega) only [onI_c, onS_c, onB_c, onN_c, onL_c, Option.bind_some, Option.map_some, cond_true, cond_false, ↓onI_c, ↓onS_c, ↓onB_c, ↓onN_c, ↓onL_c, ↓Option.bind_some, ↓cond_true, ↓cond_false, decide_eq_true, decide_eq_false, Bool.not_true, Bool.not_false, Int.toNat_natCast, List.length_append, List.length_cons, List.length_nil, List.drop_zero, Nat.zero_add, Nat.add_zero, decT, decF, bneI_t, bneI_f, e1, h1, e3, hw]
    · unfold F_law05_LexemeText_L2
      clear hx hj h h2 hlg
      simp (disch := omega) only [onI_c, onS_c, onB_c, onN_c, onL_c, Option.bind_some, Option.map_some, cond_true, cond_false, ↓onI_c, ↓onS_c, ↓onB_c, ↓onN_c, ↓onL_c, ↓Option.bind_some, ↓cond_true, ↓cond_false, decide_eq_true, decide_eq_false, Bool.not_true, Bool.not_false, Int.toNat_natCast, List.length_append, List.length_cons, List.length_nil, List.drop_zero, Nat.zero_add, Nat.add_zero, decT, decF, bneI_t, bneI_f, e1, h1, e3, hw]
  | succ m ih =>
    intro i hi
    have hlt : i < xs.length := by omega
    have g1 := strsOf_get h hlt
    have hmem : xs.getD i [] ∈ xs := by
      have : xs.getD i [] = xs[i] := by simp [List.getD, hlt]
      rw [this]; exact List.getElem_mem hlt
    have g2 := lg_none hlg _ hmem
    have g3 := contains_no (x := xs.getD i []) (spl_mem (s := trimV s) (by rw [← hx]; exact hmem)) (by omega)
    have g4 : i64 ((i : Int) + 1) = ((i + 1 : Nat) : Int) := by rw [i64_in _ (by omega)]; omega
    rw [iter_next (y := [.n xs.length, .l l, .n xs.length, .l l, .i ((xs.length : Nat) : Int), .i ((i + 1 : Nat) : Int)]), ih (i + 1) (by omega)]
    rcases hf with rfl | rfl
    · unfold F_law05_LexemeText_L1
      clear hx hj h h2 hlg ih
      simp (disch := omega) only [onI_c, onS_c, onB_c, onN_c, onL_c, Option.bind_some, Option.map_some, cond_true, cond_false, ↓onI_c, ↓onS_c, ↓onB_c, ↓onN_c, ↓onL_c, ↓Option.bind_some, ↓cond_true, ↓cond_false, decide_eq_true, decide_eq_false, Bool.not_true, Bool.not_false, Int.toNat_natCast, List.length_append, List.length_cons, List.length_nil, List.drop_zero, Nat.zero_add, Nat.add_zero, decT, decF, bneI_t, bneI_f, g1, g3, g4]
    · unfold F_law05_LexemeText_L2
      clear hx hj h h2 hlg ih
      simp (disch := omega) only [onI_c, onS_c, onB_c, onN_c, onL_c, Option.bind_some, Option.map_some, cond_true, cond_false, ↓onI_c, ↓onS_c, ↓onB_c, ↓onN_c, ↓onL_c, ↓Option.bind_some, ↓cond_true, ↓cond_false, decide_eq_true, decide_eq_false, Bool.not_true, Bool.not_false, Int.toNat_natCast, List.length_append, List.length_cons, List.length_nil, List.drop_zero, Nat.zero_add, Nat.add_zero, decT, decF, bneI_t, bneI_f, g1, g3, g4]

theorem lexemeText (s : List UInt8) : F_law05_LexemeText [.s s] = some [.b true] := by
  have hw : F_law05_works [] = some [.b true] := rfl
  unfold F_law05_LexemeText
  by_cases h : 2000 < s.length
  · simp (disch := omega) only [onI_c, onS_c, onB_c, onN_c, onL_c, Option.bind_some, Option.map_some, cond_true, cond_false, ↓onI_c, ↓onS_c, ↓onB_c, ↓onN_c, ↓onL_c, ↓Option.bind_some, ↓cond_true, ↓cond_false, decide_eq_true, decide_eq_false, Bool.not_true, Bool.not_false, Int.toNat_natCast, List.length_append, List.length_cons, List.length_nil, List.drop_zero, Nat.zero_add, Nat.add_zero, decT, decF, bneI_t, bneI_f, hw]
  · obtain ⟨r, h1, h2⟩ := lines_at (s := s) (by omega)
    obtain ⟨l, h3, h4⟩ := split_at (s := s) (by omega)
    have ht := trimV_length s
    have hcnt : (spl s).length ≤ 2001 := by rw [spl_length]; have := List.count_le_length (a := (10 : UInt8)) (l := s); omega
    have hcnt2 : (spl (trimV s)).length ≤ 2001 := by rw [spl_length]; have := List.count_le_length (a := (10 : UInt8)) (l := trimV s); omega
    have hlv : linesV s = fin [] (spl (trimV s)) := by unfold linesV; rw [if_neg (by omega)]
    have hpos : 0 < (spl (trimV s)).length := List.length_pos_iff.2 (spl_ne _)
    have hL : linesV s = match lg 0 (spl s) with | none => (spl (trimV s), 0, 0) | some k => ([], (k : Int) + 1, 6) := by
      rw [hlv, lg_trim s 0]; unfold fin; rfl
    -- the search
    have key : ∀ (m i : Nat), i + m = (spl s).length → lg 0 (spl s) = lg i ((spl s).drop i) →
        iter (F_law05_LexemeText_L0 s (linesV s).1.length r (linesV s).2.1 (linesV s).2.2) [.n (spl s).length, .l l, .i (((spl s).length : Nat) : Int), .i ((i : Nat) : Int)] = some [.b true] := by
      intro m
      induction m with
      | zero =>
        intro i hi hg
        rw [List.drop_of_length_le (by omega)] at hg
        have hg : lg 0 (spl s) = none := hg
        rw [hg] at hL
        rw [hL] at h2 ⊢
        dsimp only at h2 ⊢
        have hlg : lg 0 (spl (trimV s)) = none := by rw [← lg_trim]; exact hg
        have e1 := text_tail (s := s) (by omega) rfl hlg h2 (.inr rfl) (spl (trimV s)).length 0 (by omega)
        have hll := strsOf_len h2
        have e2 : strJoin [.n (spl (trimV s)).length, .l r, .s [10]] = some [.s (trimV s)] := by
          unfold strJoin
          simp only [onN_c, onL_c, onS_c]
          rw [h2, Option.bind_some, join_spl _ _ (Nat.le_refl _), if_pos ⟨by omega, by omega, by omega⟩]
        have e3 := trim_at (s := s) (by omega)
        have e4 : (trimV s == trimV s) = true := beq_self_eq_true _
        refine iter_end ?_
        unfold F_law05_LexemeText_L0
        generalize spl (trimV s) = X at *
        simp (disch := omega) only [onI_c, onS_c, onB_c, onN_c, onL_c, Option.bind_some, Option.map_some, cond_true, cond_false, ↓onI_c, ↓onS_c, ↓onB_c, ↓onN_c, ↓onL_c, ↓Option.bind_some, ↓cond_true, ↓cond_false, decide_eq_true, decide_eq_false, Bool.not_true, Bool.not_false, Int.toNat_natCast, List.length_append, List.length_cons, List.length_nil, List.drop_zero, Nat.zero_add, Nat.add_zero, decT, decF, bneI_t, bneI_f, e2, e3, e4]
        rw [show (0 : Int) = ((0 : Nat) : Int) from rfl, e1]; rfl
      | succ m ih =>
        intro i hi hg
        have hlt : i < (spl s).length := by omega
        have g1 := strsOf_get h4 hlt
        have g4 : i64 ((i : Int) + 1) = ((i + 1 : Nat) : Int) := by rw [i64_in _ (by omega)]; omega
        have e4 : (spl s).drop i = (spl s).getD i [] :: (spl s).drop (i + 1) := by
          rw [List.drop_eq_getElem_cons hlt]; simp [List.getD, hlt]
        rw [e4, lg] at hg
        by_cases h3 : 300 < ((spl s).getD i []).length
        · rw [if_pos h3] at hg
          rw [hg] at hL
          rw [hL] at h2 ⊢
          dsimp only at h2 ⊢
          have g5 : i64 ((i : Int) + 1) = (i : Int) + 1 := i64_in _ (by omega)
          refine iter_end ?_
          unfold F_law05_LexemeText_L0
          generalize spl s = X at *
          simp (disch := omega) only [onI_c, onS_c, onB_c, onN_c, onL_c, Option.bind_some, Option.map_some, cond_true, cond_false, ↓onI_c, ↓onS_c, ↓onB_c, ↓onN_c, ↓onL_c, ↓Option.bind_some, ↓cond_true, ↓cond_false, decide_eq_true, decide_eq_false, Bool.not_true, Bool.not_false, Int.toNat_natCast, List.length_append, List.length_cons, List.length_nil, List.drop_zero, Nat.zero_add, Nat.add_zero, decT, decF, bneI_t, bneI_f, g1, g5, hw]
        · rw [if_neg h3] at hg
          rw [iter_next (y := [.n (spl s).length, .l l, .i (((spl s).length : Nat) : Int), .i ((i + 1 : Nat) : Int)]), ih (i + 1) (by omega) hg]
          unfold F_law05_LexemeText_L0
          clear hL hlv ih
          generalize linesV s = v at *
          generalize spl s = X at *
          simp (disch := omega) only [onI_c, onS_c, onB_c, onN_c, onL_c, Option.bind_some, Option.map_some, cond_true, cond_false, ↓onI_c, ↓onS_c, ↓onB_c, ↓onN_c, ↓onL_c, ↓Option.bind_some, ↓cond_true, ↓cond_false, decide_eq_true, decide_eq_false, Bool.not_true, Bool.not_false, Int.toNat_natCast, List.length_append, List.length_cons, List.length_nil, List.drop_zero, Nat.zero_add, Nat.add_zero, decT, decF, bneI_t, bneI_f, g1, g4]
    have k0 := key (spl s).length 0 (by omega) (by simp)
    clear key hL hlv
    generalize linesV s = v at *
    simp (disch := omega) only [onI_c, onS_c, onB_c, onN_c, onL_c, Option.bind_some, Option.map_some, cond_true, cond_false, ↓onI_c, ↓onS_c, ↓onB_c, ↓onN_c, ↓onL_c, ↓Option.bind_some, ↓cond_true, ↓cond_false, decide_eq_true, decide_eq_false, Bool.not_true, Bool.not_false, Int.toNat_natCast, List.length_append, List.length_cons, List.length_nil, List.drop_zero, Nat.zero_add, Nat.add_zero, decT, decF, bneI_t, bneI_f, h1, h3]
    exact k0
theorem lawP_LexemeText {dats : List Dat} (h : DatOk tau [.string] dats) : F_law05_LexemeText dats = some [.b true] := by
  obtain ⟨s, r, rfl, hs, rfl⟩ := h
  exact lexemeText s

/-! Texts at the limits. -/
theorem rep_cons (l : List UInt8) (n : Nat) : repeatL l (n + 1) = l ++ repeatL l n := rfl
theorem rep_succ (l : List UInt8) : ∀ n, repeatL l (n + 1) = repeatL l n ++ l
  | 0 => by simp [repeatL]
  | n + 1 => by rw [rep_cons, rep_succ l n, ← List.append_assoc, ← rep_cons, rep_succ l n]
theorem spl_rep {a : List UInt8} (ha : (10 : UInt8) ∉ a) (t : List UInt8) : ∀ n, spl (repeatL (a ++ [10]) n ++ t) = List.replicate n a ++ spl t
  | 0 => rfl
  | n + 1 => by
    rw [rep_cons, List.append_assoc, List.append_assoc, List.singleton_append, spl_app ha, spl_rep ha t n, List.replicate_succ, List.cons_append]
theorem lg_rep {a : List UInt8} (ha : ¬ 300 < a.length) (r : List (List UInt8)) : ∀ n k, lg k (List.replicate n a ++ r) = lg (k + n) r
  | 0, k => rfl
  | n + 1, k => by
    rw [List.replicate_succ, List.cons_append, lg, if_neg ha, lg_rep ha r n, show k + 1 + n = k + (n + 1) by omega]
theorem rep_in {l : List UInt8} {n : Nat} (hn : n ≤ 9223372036854775807) (hl : l.length * n ≤ 140737488355328) : strRepeat [.s l, .i ((n : Nat) : Int)] = some [.s (repeatL l n)] := by
  unfold strRepeat
  simp only [onS_c, onI_c]
  rw [if_pos ⟨by omega, by omega, by rw [Int.toNat_natCast]; exact hl⟩, Int.toNat_natCast]
theorem rep_not {l : List UInt8} {c : UInt8} (h : c ∉ l) : ∀ n, c ∉ repeatL l n
  | 0 => by simp [repeatL]
  | n + 1 => by rw [rep_cons]; simp [h, rep_not h n]
theorem huge_parts {A : List UInt8} (hA10 : (10 : UInt8) ∉ A) (lA : A.length = 255) (N : Nat) (hN : N + 1 ≤ 32768) : (repeatL (A ++ [10]) (N + 1)).length = (N + 1) * 256 ∧ linesV (repeatL (A ++ [10]) (N + 1)) = (List.replicate (N + 1) A, 0, 0) := by
  have l2 : (repeatL (A ++ [10]) (N + 1)).length = (N + 1) * 256 := by rw [repeatL_length, List.length_append, lA]; rfl
  have sp : spl (trimV (repeatL (A ++ [10]) (N + 1))) = List.replicate (N + 1) A := by
    rw [rep_succ, ← List.append_assoc, trim_end, spl_rep hA10, spl_none hA10, ← List.replicate_succ']
  refine ⟨l2, ?_⟩
  unfold linesV
  rw [if_neg (by rw [l2]; omega), sp]
  unfold fin
  have := lg_rep (a := A) (by omega) [] (N + 1) 0
  rw [List.append_nil] at this
  rw [show ([] : List (List UInt8)).length = 0 from rfl, this, List.nil_append]
  rfl
theorem huge_tail {A : List UInt8} (hA10 : (10 : UInt8) ∉ A) (lA : A.length = 255) {N : Nat} (hN : N + 1 = 32768) {s1 : List UInt8} (hs : s1 = repeatL (A ++ [10]) (N + 1)) :
    (∃ r, F_lexeme_Lines [.s s1] = some [.n 32768, .l r, .i 0, .i 0]) ∧ (∃ r, F_lexeme_Lines [.s (s1 ++ [120])] = some [.n 0, .l r, .i 1, .i 6]) ∧ s1.length = 8388608 := by
  obtain ⟨l2, v1⟩ := huge_parts hA10 lA N (by omega)
  rw [← hs] at l2 v1
  have l3 : s1.length = 8388608 := by rw [l2, hN]
  obtain ⟨r, h1, h2⟩ := lines_at (s := s1) (by omega)
  obtain ⟨r2, h3, h4⟩ := lines_at (s := s1 ++ [120]) (by simp; omega)
  have v2 : linesV (s1 ++ [120]) = ([], 1, 6) := by
    unfold linesV
    rw [if_pos (by simp; omega)]
  rw [v1] at h1
  rw [v2] at h3
  dsimp only at h1 h3
  rw [List.length_replicate, hN] at h1
  exact ⟨⟨r, h1⟩, ⟨r2, h3⟩, l3⟩
theorem hugeW (A Bt : List UInt8) (r r2 : List AV) (hw : F_law05_works [] = some [.b true]) (e1 : strRepeat [.s [32], .i 255] = some [.s A]) (l1 : A.length = 255) (e2 : strRepeat [.s (A ++ [10]), .i 32768] = some [.s Bt])
  (h1 : F_lexeme_Lines [.s Bt] = some [.n 32768, .l r, .i 0, .i 0]) (h3 : F_lexeme_Lines [.s (Bt ++ [120])] = some [.n 0, .l r2, .i 1, .i 6]) (l3 : Bt.length = 8388608) : F_law05_LexemeHuge [] = some [.b true] := by
  unfold F_law05_LexemeHuge
  simp (disch := omega) only [onI_c, onS_c, onB_c, onN_c, onL_c, Option.bind_some, Option.map_some, cond_true, cond_false, ↓onI_c, ↓onS_c, ↓onB_c, ↓onN_c, ↓onL_c, ↓Option.bind_some, ↓cond_true, ↓cond_false, decide_eq_true, decide_eq_false, Bool.not_true, Bool.not_false, Int.toNat_natCast, List.length_append, List.length_cons, List.length_nil, List.drop_zero, Nat.zero_add, Nat.add_zero, decT, decF, bneI_t, bneI_f, e1, e2, h1, h3, hw]
theorem huge1 : ∃ A, strRepeat [.s [32], .i 255] = some [.s A] ∧ A.length = 255 ∧ (10 : UInt8) ∉ A := ⟨_, rep_in (n := 255) (by omega) (by simp), by rw [repeatL_length]; simp, rep_not (by simp) _⟩
theorem huge2 {A : List UInt8} (l1 : A.length = 255) {N : Nat} (hN : N + 1 = 32768) : strRepeat [.s (A ++ [10]), .i 32768] = some [.s (repeatL (A ++ [10]) (N + 1))] := by
  have e2 : strRepeat [.s (A ++ [10]), .i (((N + 1 : Nat) : Nat) : Int)] = some [.s (repeatL (A ++ [10]) (N + 1))] := rep_in (n := N + 1) (by omega) (by rw [List.length_append, l1, hN]; simp)
  have e3 : ((N + 1 : Nat) : Int) = 32768 := by omega
  rw [e3] at e2
  exact e2
theorem huge3 {N : Nat} (hN : N + 1 = 32768) : F_law05_LexemeHuge [] = some [.b true] := by
  obtain ⟨A, e1, l1, hA⟩ := huge1
  obtain ⟨⟨r, h1⟩, ⟨r2, h3⟩, l3⟩ := huge_tail hA l1 hN rfl
  exact hugeW A _ r r2 rfl e1 l1 (huge2 l1 hN) h1 h3 l3
theorem lexemeHuge : F_law05_LexemeHuge [] = some [.b true] := by
  have h : 32767 + 1 = 32768 := by omega
  generalize 32767 = N at h
  exact huge3 h
theorem lawP_LexemeHuge {dats : List Dat} (h : DatOk tau [] dats) : F_law05_LexemeHuge dats = some [.b true] := by
  cases h
  exact lexemeHuge
end Go.Proofs.YtgehedalhppehaaDoor
