/-
  Lines: both ways to read them.
-/
import Derived.Test.YtgehedalhppehaaDoorMLinlex
namespace Go.Proofs.YtgehedalhppehaaDoor
open Go.Ax Go.Lib
set_option linter.all false
set_option maxHeartbeats 4000000
set_option maxRecDepth 100000
attribute [local congr] cond_cong bind_cong onI_cong onB_cong onS_cong onN_cong onL_cong

def trimV (s : List UInt8) : List UInt8 := if s.getLast? = some 10 then s.dropLast else s
theorem getLast_drop {s : List UInt8} (h : 1 ≤ s.length) : List.drop (s.length - 1) s = [s.getLast (by intro e; rw [e] at h; simp at h)] := by
  have hne : s ≠ [] := by intro e; rw [e] at h; simp at h
  conv => lhs; rw [← List.dropLast_concat_getLast hne]
  rw [List.drop_append, List.drop_of_length_le (by simp), List.nil_append]
  simp
theorem trim_at {s : List UInt8} (hs : s.length ≤ 4611686018427387904) : F_strings_TrimSuffix [.s s, .s [10]] = some [.s (trimV s)] := by
  have l1 : ([10] : List UInt8).length = 1 := rfl
  have e1 : F_internal_stringslite_HasSuffix [.s s, .s [10]] = some [.b (decide (s.getLast? = some 10))] := by
    unfold F_internal_stringslite_HasSuffix
    by_cases h0 : 1 ≤ s.length
    · have e2 : i64 (((s.length : Nat) : Int) - ((1 : Nat) : Int)) = ((s.length - 1 : Nat) : Int) := by rw [i64_in _ (by omega)]; omega
      have hne : s ≠ [] := by intro e; rw [e] at h0; simp at h0
      have e3 := getLast_drop h0
      have e4 : List.take (s.length - (s.length - 1)) (List.drop (s.length - 1) s) = [s.getLast hne] := by
        rw [e3]; exact List.take_of_length_le (by simp; omega)
      have e5 : s.getLast? = some (s.getLast hne) := List.getLast?_eq_some_getLast hne
      simp (disch := omega) only [onI_c, onS_c, onB_c, onN_c, onL_c, Option.bind_some, Option.map_some, cond_true, cond_false, ↓onI_c, ↓onS_c, ↓onB_c, ↓onN_c, ↓onL_c, ↓Option.bind_some, ↓cond_true, ↓cond_false, decide_eq_true, decide_eq_false, Bool.not_true, Bool.not_false, Int.toNat_natCast, List.length_append, List.length_cons, List.length_nil, List.drop_zero, Nat.zero_add, Nat.add_zero, decT, decF, bneI_t, bneI_f, e2, e4]
      rw [e5]
      by_cases h10 : s.getLast hne = 10
      · rw [h10]; simp
      · have : (([s.getLast hne] : List UInt8) == [10]) = false := beq_f (fun e => h10 (by simpa using e))
        rw [this]; simp [h10]
    · have hn : s = [] := List.eq_nil_of_length_eq_zero (by omega)
      subst hn
      rfl
  have e2 : F_internal_stringslite_TrimSuffix [.s s, .s [10]] = some [.s (trimV s)] := by
    unfold F_internal_stringslite_TrimSuffix trimV
    by_cases h10 : s.getLast? = some 10
    · have h0 : 1 ≤ s.length := by cases s with | nil => simp at h10 | cons c t => simp
      have e3 : i64 (((s.length : Nat) : Int) - ((1 : Nat) : Int)) = ((s.length - 1 : Nat) : Int) := by rw [i64_in _ (by omega)]; omega
      rw [decide_eq_true h10] at e1
      rw [if_pos h10, List.dropLast_eq_take]
      simp (disch := omega) only [onI_c, onS_c, onB_c, onN_c, onL_c, Option.bind_some, Option.map_some, cond_true, cond_false, ↓onI_c, ↓onS_c, ↓onB_c, ↓onN_c, ↓onL_c, ↓Option.bind_some, ↓cond_true, ↓cond_false, decide_eq_true, decide_eq_false, Bool.not_true, Bool.not_false, Int.toNat_natCast, List.length_append, List.length_cons, List.length_nil, List.drop_zero, Nat.zero_add, Nat.add_zero, decT, decF, bneI_t, bneI_f, e1, e3]
    · rw [decide_eq_false h10] at e1
      rw [if_neg h10]
      simp (disch := omega) only [onI_c, onS_c, onB_c, onN_c, onL_c, Option.bind_some, Option.map_some, cond_true, cond_false, ↓onI_c, ↓onS_c, ↓onB_c, ↓onN_c, ↓onL_c, ↓Option.bind_some, ↓cond_true, ↓cond_false, decide_eq_true, decide_eq_false, Bool.not_true, Bool.not_false, Int.toNat_natCast, List.length_append, List.length_cons, List.length_nil, List.drop_zero, Nat.zero_add, Nat.add_zero, decT, decF, bneI_t, bneI_f, e1]
  unfold F_strings_TrimSuffix
  simp (disch := omega) only [onI_c, onS_c, onB_c, onN_c, onL_c, Option.bind_some, Option.map_some, cond_true, cond_false, ↓onI_c, ↓onS_c, ↓onB_c, ↓onN_c, ↓onL_c, ↓Option.bind_some, ↓cond_true, ↓cond_false, decide_eq_true, decide_eq_false, Bool.not_true, Bool.not_false, Int.toNat_natCast, List.length_append, List.length_cons, List.length_nil, List.drop_zero, Nat.zero_add, Nat.add_zero, decT, decF, bneI_t, bneI_f, e2]
theorem trimV_length (s : List UInt8) : (trimV s).length ≤ s.length := by
  unfold trimV; split <;> simp
/-- The first line that is too long, from a number on. -/
def lg : Nat → List (List UInt8) → Option Nat
  | _, [] => none
  | k, x :: xs => if 300 < x.length then some k else lg (k + 1) xs
def fin (out ls : List (List UInt8)) : List (List UInt8) × Int × Int := match lg out.length ls with
  | none => (out ++ ls, 0, 0)
  | some k => ([], (k : Int) + 1, 6)
theorem fin_nil (out : List (List UInt8)) : fin out [] = (out, 0, 0) := by simp [fin, lg]
theorem fin_long {out ls : List (List UInt8)} {a : List UInt8} (h : 300 < a.length) : fin out (a :: ls) = ([], (out.length : Int) + 1, 6) := by simp [fin, lg, h]
theorem fin_next {out ls : List (List UInt8)} {a : List UInt8} (h : ¬ 300 < a.length) : fin out (a :: ls) = fin (out ++ [a]) ls := by
  unfold fin
  rw [lg, if_neg h, List.length_append, List.length_singleton]
  cases lg (out.length + 1) ls <;> simp
def linesV (s : List UInt8) : List (List UInt8) × Int × Int := if 8388608 < s.length then ([], 1, 6) else fin [] (spl (trimV s))

theorem lines_run {l : List AV} {xs : List (List UInt8)} (h : strsOf l = some xs) (hl : xs.length < 4611686018427387904) : ∀ (m i : Nat), i + m = xs.length → fin [] xs = fin (xs.take i) (xs.drop i) →
    ∃ r, iter F_lexeme_Lines_L0 [.n xs.length, .l l, .n xs.length, .l l, .i ((xs.length : Nat) : Int), .i ((i : Nat) : Int)] = some [.n (fin [] xs).1.length, .l r, .i (fin [] xs).2.1, .i (fin [] xs).2.2] ∧ strsOf r = some (fin [] xs).1 := by
  intro m
  induction m with
  | zero =>
    intro i hi hf
    rw [hf, List.drop_of_length_le (by omega), List.take_of_length_le (by omega), fin_nil]
    refine ⟨l, iter_end ?_, h⟩
    unfold F_lexeme_Lines_L0
    simp (disch := omega) only [onI_c, onS_c, onB_c, onN_c, onL_c, Option.bind_some, Option.map_some, cond_true, cond_false, ↓onI_c, ↓onS_c, ↓onB_c, ↓onN_c, ↓onL_c, ↓Option.bind_some, ↓cond_true, ↓cond_false, decide_eq_true, decide_eq_false, Bool.not_true, Bool.not_false, Int.toNat_natCast, List.length_append, List.length_cons, List.length_nil, List.drop_zero, Nat.zero_add, Nat.add_zero, decT, decF, bneI_t, bneI_f]
  | succ m ih =>
    intro i hi hf
    have hlt : i < xs.length := by omega
    have e1 := strsOf_get h hlt
    have e3 : i64 ((i : Int) + 1) = ((i + 1 : Nat) : Int) := by rw [i64_in _ (by omega)]; omega
    have e4 : xs.drop i = xs.getD i [] :: xs.drop (i + 1) := by
      rw [List.drop_eq_getElem_cons hlt]; simp [List.getD, hlt]
    by_cases hx : 300 < (xs.getD i []).length
    · rw [e4, fin_long hx] at hf
      rw [hf]
      refine ⟨[], iter_end ?_, rfl⟩
      unfold F_lexeme_Lines_L0
      have e5 : ((xs.take i).length : Int) + 1 = ((i + 1 : Nat) : Int) := by rw [List.length_take]; omega
      rw [e5]
      simp (disch := omega) only [onI_c, onS_c, onB_c, onN_c, onL_c, Option.bind_some, Option.map_some, cond_true, cond_false, ↓onI_c, ↓onS_c, ↓onB_c, ↓onN_c, ↓onL_c, ↓Option.bind_some, ↓cond_true, ↓cond_false, decide_eq_true, decide_eq_false, Bool.not_true, Bool.not_false, Int.toNat_natCast, List.length_append, List.length_cons, List.length_nil, List.drop_zero, Nat.zero_add, Nat.add_zero, decT, decF, bneI_t, bneI_f, e1, e3]
    · rw [e4, fin_next hx, show xs.take i ++ [xs.getD i []] = xs.take (i + 1) by rw [List.take_succ]; simp [List.getD, hlt]] at hf
      obtain ⟨r, h1, h2⟩ := ih (i + 1) (by omega) hf
      refine ⟨r, ?_, h2⟩
      rw [iter_next (y := [.n xs.length, .l l, .n xs.length, .l l, .i ((xs.length : Nat) : Int), .i ((i + 1 : Nat) : Int)]), h1]
      unfold F_lexeme_Lines_L0
      simp (disch := omega) only [onI_c, onS_c, onB_c, onN_c, onL_c, Option.bind_some, Option.map_some, cond_true, cond_false, ↓onI_c, ↓onS_c, ↓onB_c, ↓onN_c, ↓onL_c, ↓Option.bind_some, ↓cond_true, ↓cond_false, decide_eq_true, decide_eq_false, Bool.not_true, Bool.not_false, Int.toNat_natCast, List.length_append, List.length_cons, List.length_nil, List.drop_zero, Nat.zero_add, Nat.add_zero, decT, decF, bneI_t, bneI_f, e1, e3]
theorem lines_at {s : List UInt8} (hs : s.length < 4611686018427387904) : ∃ r, F_lexeme_Lines [.s s] = some [.n (linesV s).1.length, .l r, .i (linesV s).2.1, .i (linesV s).2.2] ∧ strsOf r = some (linesV s).1 := by
  unfold linesV F_lexeme_Lines
  by_cases h : 8388608 < s.length
  · rw [if_pos h]
    refine ⟨[], ?_, rfl⟩
    simp (disch := omega) only [onI_c, onS_c, onB_c, onN_c, onL_c, Option.bind_some, Option.map_some, cond_true, cond_false, ↓onI_c, ↓onS_c, ↓onB_c, ↓onN_c, ↓onL_c, ↓Option.bind_some, ↓cond_true, ↓cond_false, decide_eq_true, decide_eq_false, Bool.not_true, Bool.not_false, Int.toNat_natCast, List.length_append, List.length_cons, List.length_nil, List.drop_zero, Nat.zero_add, Nat.add_zero, decT, decF, bneI_t, bneI_f]
  · rw [if_neg h]
    have e1 := trim_at (s := s) (by omega)
    have ht := trimV_length s
    obtain ⟨l, e2, e3⟩ := split_at (s := trimV s) (by omega)
    have hlen : (spl (trimV s)).length ≤ 8388609 := by rw [spl_length]; have := List.count_le_length (a := (10 : UInt8)) (l := trimV s); omega
    obtain ⟨r, h1, h2⟩ := lines_run e3 (by omega) (spl (trimV s)).length 0 (by omega) (by simp)
    refine ⟨r, ?_, h2⟩
    rw [← h1]
    simp (disch := omega) only [onI_c, onS_c, onB_c, onN_c, onL_c, Option.bind_some, Option.map_some, cond_true, cond_false, ↓onI_c, ↓onS_c, ↓onB_c, ↓onN_c, ↓onL_c, ↓Option.bind_some, ↓cond_true, ↓cond_false, decide_eq_true, decide_eq_false, Bool.not_true, Bool.not_false, Int.toNat_natCast, List.length_append, List.length_cons, List.length_nil, List.drop_zero, Nat.zero_add, Nat.add_zero, decT, decF, bneI_t, bneI_f, e1, e2]
    rfl

/-! The document's way. -/
def rlv (t : List UInt8) (first : Bool) : List (List UInt8) := if t = [] then (if first then [[]] else []) else spl (trimV t)
theorem trim_no {a : List UInt8} (h : (10 : UInt8) ∉ a) : trimV a = a := by
  unfold trimV
  rw [if_neg (fun e => h (List.mem_of_getLast? e))]
theorem rlv_line {a t : List UInt8} (h : (10 : UInt8) ∉ a) (f : Bool) : rlv (a ++ 10 :: t) f = a :: rlv t false := by
  unfold rlv
  rw [if_neg (by simp)]
  cases ht : t with
  | nil =>
    rw [if_pos rfl]
    unfold trimV
    rw [if_pos (by simp), show (a ++ [10] : List UInt8).dropLast = a by simp, spl_none h]
    rfl
  | cons c u =>
    rw [if_neg (by simp)]
    have e : trimV (a ++ 10 :: (c :: u)) = a ++ 10 :: trimV (c :: u) := by
      unfold trimV
      have : (a ++ 10 :: (c :: u)).getLast? = (c :: u).getLast? := by simp [List.getLast?_append, List.getLast?_cons]
      rw [this]
      split
      · rw [List.dropLast_append_of_ne_nil (by simp)]
        simp
      · rfl
    rw [e, spl_app h]
theorem rlv_last {a : List UInt8} (h : (10 : UInt8) ∉ a) (f : Bool) : rlv a f = if a = [] ∧ f = false then [] else [a] := by
  unfold rlv
  by_cases ha : a = []
  · subst ha
    cases f <;> simp
  · rw [if_neg ha, if_neg (fun e => ha e.1), trim_no h, spl_none h]

theorem getD_mid {p a r : List UInt8} {c : UInt8} : (p ++ a ++ c :: r).getD (p.length + a.length) 0 = c := by
  simp [List.getD, List.getElem?_append]
theorem ref_run {text : List UInt8} (hl : text.length ≤ 8388608) : ∀ (r p a : List UInt8) (out : List (List UInt8)) (cells : List AV), text = p ++ a ++ r → (10 : UInt8) ∉ a → strsOf cells = some out → out.length ≤ p.length →
    ∃ l, iter F_ref05_Lines_L0 [.s text, .n out.length, .i ((p.length : Nat) : Int), .i ((p.length + a.length : Nat) : Int), .l cells] =
      some [.n (fin out (rlv (a ++ r) (decide (p = [])))).1.length, .l l, .i (fin out (rlv (a ++ r) (decide (p = [])))).2.1, .i (fin out (rlv (a ++ r) (decide (p = [])))).2.2] ∧ strsOf l = some (fin out (rlv (a ++ r) (decide (p = [])))).1 := by
  intro r
  -- a line is done
  have close : ∀ (p a : List UInt8) (out : List (List UInt8)) (cells : List AV) (i : Nat), i = p.length + a.length → i ≤ text.length → List.take (i - p.length) (List.drop p.length text) = a → strsOf cells = some out → out.length ≤ p.length →
      (¬ i < text.length ∨ (text.getD i 0).toNat = 10) → (i = text.length → p.length ≠ i ∨ i = 0) →
      (300 < a.length → F_ref05_Lines_L0 [.s text, .n out.length, .i ((p.length : Nat) : Int), .i ((i : Nat) : Int), .l cells] = some (.inr [.n 0, .l [], .i ((out.length : Int) + 1), .i 6])) ∧
      (¬ 300 < a.length → ∃ c2, F_ref05_Lines_L0 [.s text, .n out.length, .i ((p.length : Nat) : Int), .i ((i : Nat) : Int), .l cells] = some (.inl [.s text, .n (out ++ [a]).length, .i ((i + 1 : Nat) : Int), .i ((i + 1 : Nat) : Int), .l c2]) ∧ strsOf c2 = some (out ++ [a])) := by
    intro p a out cells i hi hle htk hc ho hend hz
    have e3 : i64 ((i : Int) + 1) = ((i + 1 : Nat) : Int) := by rw [i64_in _ (by omega)]; omega
    have e4 : i64 ((i : Int) - ((p.length : Nat) : Int)) = ((a.length : Nat) : Int) := by rw [i64_in _ (by omega)]; omega
    have e5 : i64 (((out.length : Nat) : Int) + 1) = (out.length : Int) + 1 := i64_in _ (by omega)
    have hcl : cells.length = out.length := (strsOf_len hc).symm
    have hc2 : strsOf (cells ++ [.str (.sym a)]) = some (out ++ [a]) := strsOf_append hc rfl
    have hcc := strsOf_closed hc2
    constructor
    · intro ha
      unfold F_ref05_Lines_L0
      clear hc hc2 htk
      rcases Nat.lt_or_ge i text.length with h | h
      · have h10 : (text.getD i 0).toNat = 10 := by rcases hend with q | q; omega; exact q
        clear hz hend
        simp (disch := omega) only [onI_c, onS_c, onB_c, onN_c, onL_c, Option.bind_some, Option.map_some, cond_true, cond_false, ↓onI_c, ↓onS_c, ↓onB_c, ↓onN_c, ↓onL_c, ↓Option.bind_some, ↓cond_true, ↓cond_false, decide_eq_true, decide_eq_false, Bool.not_true, Bool.not_false, Int.toNat_natCast, List.length_append, List.length_cons, List.length_nil, List.drop_zero, Nat.zero_add, Nat.add_zero, decT, decF, bneI_t, bneI_f, e3, e4, e5]
      · clear hz hend
        simp (disch := omega) only [onI_c, onS_c, onB_c, onN_c, onL_c, Option.bind_some, Option.map_some, cond_true, cond_false, ↓onI_c, ↓onS_c, ↓onB_c, ↓onN_c, ↓onL_c, ↓Option.bind_some, ↓cond_true, ↓cond_false, decide_eq_true, decide_eq_false, Bool.not_true, Bool.not_false, Int.toNat_natCast, List.length_append, List.length_cons, List.length_nil, List.drop_zero, Nat.zero_add, Nat.add_zero, decT, decF, bneI_t, bneI_f, e3, e4, e5]
    · intro ha
      refine ⟨cells ++ [.str (.sym a)], ?_, hc2⟩
      unfold F_ref05_Lines_L0
      clear hc hc2
      rw [List.length_append, List.length_singleton]
      rcases Nat.lt_or_ge i text.length with h | h
      · have h10 : (text.getD i 0).toNat = 10 := by rcases hend with q | q; omega; exact q
        clear hz hend
        simp (disch := omega) only [onI_c, onS_c, onB_c, onN_c, onL_c, Option.bind_some, Option.map_some, cond_true, cond_false, ↓onI_c, ↓onS_c, ↓onB_c, ↓onN_c, ↓onL_c, ↓Option.bind_some, ↓cond_true, ↓cond_false, decide_eq_true, decide_eq_false, Bool.not_true, Bool.not_false, Int.toNat_natCast, List.length_append, List.length_cons, List.length_nil, List.drop_zero, Nat.zero_add, Nat.add_zero, decT, decF, bneI_t, bneI_f, e3, e4, htk, hcc]
      · have hz := hz (by omega)
        clear hend
        by_cases hp : p.length = i
        · have hi0 : i = 0 := by rcases hz with q | q; exact absurd hp q; exact q
          clear hz
          simp (disch := omega) only [onI_c, onS_c, onB_c, onN_c, onL_c, Option.bind_some, Option.map_some, cond_true, cond_false, ↓onI_c, ↓onS_c, ↓onB_c, ↓onN_c, ↓onL_c, ↓Option.bind_some, ↓cond_true, ↓cond_false, decide_eq_true, decide_eq_false, Bool.not_true, Bool.not_false, Int.toNat_natCast, List.length_append, List.length_cons, List.length_nil, List.drop_zero, Nat.zero_add, Nat.add_zero, decT, decF, bneI_t, bneI_f, e3, e4, htk, hcc]
        · clear hz
          simp (disch := omega) only [onI_c, onS_c, onB_c, onN_c, onL_c, Option.bind_some, Option.map_some, cond_true, cond_false, ↓onI_c, ↓onS_c, ↓onB_c, ↓onN_c, ↓onL_c, ↓Option.bind_some, ↓cond_true, ↓cond_false, decide_eq_true, decide_eq_false, Bool.not_true, Bool.not_false, Int.toNat_natCast, List.length_append, List.length_cons, List.length_nil, List.drop_zero, Nat.zero_add, Nat.add_zero, decT, decF, bneI_t, bneI_f, e3, e4, htk, hcc]
  induction r with
  | nil =>
    intro p a out cells ht h10 hc ho
    rw [List.append_nil] at ht ⊢
    have hlen : text.length = p.length + a.length := by rw [ht]; simp
    rw [rlv_last h10]
    have ended : ∀ (out2 : List (List UInt8)) (c2 : List AV) (q : Nat), q = text.length + 1 → strsOf c2 = some out2 → ∀ b : Int, iter F_ref05_Lines_L0 [.s text, .n out2.length, .i b, .i ((q : Nat) : Int), .l c2] = some [.n out2.length, .l c2, .i 0, .i 0] := by
      intro out2 c2 q hq h2 b
      have hcl : c2.length = out2.length := (strsOf_len h2).symm
      have hcc := strsOf_closed h2
      refine iter_end ?_
      unfold F_ref05_Lines_L0
      clear h2
      simp (disch := omega) only [onI_c, onS_c, onB_c, onN_c, onL_c, Option.bind_some, Option.map_some, cond_true, cond_false, ↓onI_c, ↓onS_c, ↓onB_c, ↓onN_c, ↓onL_c, ↓Option.bind_some, ↓cond_true, ↓cond_false, decide_eq_true, decide_eq_false, Bool.not_true, Bool.not_false, Int.toNat_natCast, List.length_append, List.length_cons, List.length_nil, List.drop_zero, Nat.zero_add, Nat.add_zero, decT, decF, bneI_t, bneI_f, hcc]
    by_cases hz : a = [] ∧ decide (p = []) = false
    · rw [if_pos hz, fin_nil]
      obtain ⟨rfl, hp⟩ := hz
      have hp : p ≠ [] := of_decide_eq_false hp
      have hp0 : 0 < p.length := List.length_pos_iff.2 hp
      have hlen : text.length = p.length := by simpa using hlen
      have hcc := strsOf_closed hc
      have e3 : i64 (((p.length : Nat) : Int) + 1) = ((p.length + 1 : Nat) : Int) := by rw [i64_in _ (by omega)]; omega
      refine ⟨cells, ?_, hc⟩
      rw [show p.length + ([] : List UInt8).length = p.length from rfl]
      rw [iter_next (y := [.s text, .n out.length, .i ((p.length : Nat) : Int), .i ((p.length + 1 : Nat) : Int), .l cells]), ended out cells (p.length + 1) (by omega) hc]
      unfold F_ref05_Lines_L0
      simp (disch := omega) only [onI_c, onS_c, onB_c, onN_c, onL_c, Option.bind_some, Option.map_some, cond_true, cond_false, ↓onI_c, ↓onS_c, ↓onB_c, ↓onN_c, ↓onL_c, ↓Option.bind_some, ↓cond_true, ↓cond_false, decide_eq_true, decide_eq_false, Bool.not_true, Bool.not_false, Int.toNat_natCast, List.length_append, List.length_cons, List.length_nil, List.drop_zero, Nat.zero_add, Nat.add_zero, decT, decF, bneI_t, bneI_f, e3, hcc]
    · rw [if_neg hz]
      obtain ⟨k1, k2⟩ := close p a out cells (p.length + a.length) rfl (by omega) (by rw [ht]; simp) hc ho (.inl (by omega)) (fun _ => by
        by_cases hp : p = []
        · by_cases ha : a = []
          · right; rw [hp, ha]; rfl
          · left; have := List.length_pos_iff.2 ha; omega
        · have ha : a ≠ [] := fun e => hz ⟨e, by simp [hp]⟩
          left; have := List.length_pos_iff.2 ha; omega)
      by_cases h3 : 300 < a.length
      · rw [fin_long h3]
        exact ⟨[], iter_end (k1 h3), rfl⟩
      · rw [fin_next h3, fin_nil]
        obtain ⟨c2, k3, k4⟩ := k2 h3
        exact ⟨c2, by rw [iter_next k3, ended _ _ _ (by omega) k4], k4⟩
  | cons c r ih =>
    intro p a out cells ht h10 hc ho
    have hlen : text.length = p.length + a.length + (r.length + 1) := by rw [ht]; simp; omega
    have hg : text.getD (p.length + a.length) 0 = c := by rw [ht]; exact getD_mid
    have e3 : i64 (((p.length + a.length : Nat) : Int) + 1) = ((p.length + a.length + 1 : Nat) : Int) := by rw [i64_in _ (by omega)]; omega
    by_cases hc10 : c = 10
    · subst hc10
      rw [rlv_line h10]
      obtain ⟨k1, k2⟩ := close p a out cells (p.length + a.length) rfl (by omega) (by rw [ht]; simp) hc ho (.inr (by rw [hg]; rfl)) (fun q => by omega)
      by_cases h3 : 300 < a.length
      · rw [fin_long h3]
        exact ⟨[], iter_end (k1 h3), rfl⟩
      · rw [fin_next h3]
        obtain ⟨c2, k3, k4⟩ := k2 h3
        obtain ⟨l, h1, h2⟩ := ih (p ++ a ++ [10]) [] (out ++ [a]) c2 (by rw [ht]; simp) (by simp) k4 (by simp; omega)
        have e : decide (p ++ a ++ [10] = ([] : List UInt8)) = false := by simp
        rw [e, List.nil_append] at h1 h2
        refine ⟨l, ?_, h2⟩
        rw [iter_next k3, ← h1]
        congr 3
        simp [List.length_append]
        omega
    · obtain ⟨l, h1, h2⟩ := ih p (a ++ [c]) out cells (by rw [ht]; simp) (by simp [h10]; exact fun e => hc10 e.symm) hc ho
      have e : a ++ [c] ++ r = a ++ c :: r := by simp
      rw [e] at h1 h2
      refine ⟨l, ?_, h2⟩
      rw [← h1]
      have hcc := strsOf_closed hc
      have hcn : ¬ (((text.getD (p.length + a.length) 0).toNat : Nat) : Int) = 10 := fun q => hc10 (by
        rw [hg] at q
        have : c.toNat = 10 := by omega
        exact UInt8.toNat_inj.1 this)
      rw [iter_next (y := [.s text, .n out.length, .i ((p.length : Nat) : Int), .i ((p.length + a.length + 1 : Nat) : Int), .l cells])]
      · rw [List.length_append, List.length_singleton, Nat.add_assoc]
      unfold F_ref05_Lines_L0
      clear h1 h2 ih hc close
      simp (disch := omega) only [onI_c, onS_c, onB_c, onN_c, onL_c, Option.bind_some, Option.map_some, cond_true, cond_false, ↓onI_c, ↓onS_c, ↓onB_c, ↓onN_c, ↓onL_c, ↓Option.bind_some, ↓cond_true, ↓cond_false, decide_eq_true, decide_eq_false, Bool.not_true, Bool.not_false, Int.toNat_natCast, List.length_append, List.length_cons, List.length_nil, List.drop_zero, Nat.zero_add, Nat.add_zero, decT, decF, bneI_t, bneI_f, e3, hcc]
theorem refLines_at {s : List UInt8} : ∃ r, F_ref05_Lines [.s s] = some [.n (linesV s).1.length, .l r, .i (linesV s).2.1, .i (linesV s).2.2] ∧ strsOf r = some (linesV s).1 := by
  unfold linesV F_ref05_Lines
  by_cases h : 8388608 < s.length
  · rw [if_pos h]
    refine ⟨[], ?_, rfl⟩
    simp (disch := omega) only [onI_c, onS_c, onB_c, onN_c, onL_c, Option.bind_some, Option.map_some, cond_true, cond_false, ↓onI_c, ↓onS_c, ↓onB_c, ↓onN_c, ↓onL_c, ↓Option.bind_some, ↓cond_true, ↓cond_false, decide_eq_true, decide_eq_false, Bool.not_true, Bool.not_false, Int.toNat_natCast, List.length_append, List.length_cons, List.length_nil, List.drop_zero, Nat.zero_add, Nat.add_zero, decT, decF, bneI_t, bneI_f]
  · rw [if_neg h]
    obtain ⟨l, h1, h2⟩ := ref_run (text := s) (by omega) s [] [] [] [] (by simp) (by simp) rfl (Nat.zero_le _)
    have e : rlv ([] ++ s) (decide (([] : List UInt8) = [])) = spl (trimV s) := by
      rw [List.nil_append]
      unfold rlv
      by_cases hs : s = []
      · subst hs; rfl
      · rw [if_neg hs]
    rw [e] at h1 h2
    refine ⟨l, ?_, h2⟩
    rw [← h1]
    simp (disch := omega) only [onI_c, onS_c, onB_c, onN_c, onL_c, Option.bind_some, Option.map_some, cond_true, cond_false, ↓onI_c, ↓onS_c, ↓onB_c, ↓onN_c, ↓onL_c, ↓Option.bind_some, ↓cond_true, ↓cond_false, decide_eq_true, decide_eq_false, Bool.not_true, Bool.not_false, Int.toNat_natCast, List.length_append, List.length_cons, List.length_nil, List.drop_zero, Nat.zero_add, Nat.add_zero, decT, decF, bneI_t, bneI_f]
    rfl

theorem linesV_len (s : List UInt8) : (linesV s).1.length ≤ 8388609 := by
  unfold linesV
  split
  · simp
  · rename_i h
    have hlen : (spl (trimV s)).length ≤ 8388609 := by rw [spl_length]; have := List.count_le_length (a := (10 : UInt8)) (l := trimV s); have := trimV_length s; omega
    unfold fin
    split
    · simpa using hlen
    · simp
theorem lexemeLines (s : List UInt8) : F_law05_LexemeLines [.s s] = some [.b true] := by
  have hw : F_law05_works [] = some [.b true] := rfl
  unfold F_law05_LexemeLines
  by_cases h : 3000 < s.length
  · simp (disch := omega) only [onI_c, onS_c, onB_c, onN_c, onL_c, Option.bind_some, Option.map_some, cond_true, cond_false, ↓onI_c, ↓onS_c, ↓onB_c, ↓onN_c, ↓onL_c, ↓Option.bind_some, ↓cond_true, ↓cond_false, decide_eq_true, decide_eq_false, Bool.not_true, Bool.not_false, Int.toNat_natCast, List.length_append, List.length_cons, List.length_nil, List.drop_zero, Nat.zero_add, Nat.add_zero, decT, decF, bneI_t, bneI_f, hw]
  · obtain ⟨l, h1, h2⟩ := lines_at (s := s) (by omega)
    obtain ⟨r, h3, h4⟩ := refLines_at (s := s)
    have h5 := equal_at h2 h4 rfl rfl (by have := linesV_len s; omega)
    rw [decide_eq_true rfl] at h5
    generalize linesV s = v at *
    obtain ⟨x, y, z⟩ := v
    dsimp only at *
    simp (disch := omega) only [onI_c, onS_c, onB_c, onN_c, onL_c, Option.bind_some, Option.map_some, cond_true, cond_false, ↓onI_c, ↓onS_c, ↓onB_c, ↓onN_c, ↓onL_c, ↓Option.bind_some, ↓cond_true, ↓cond_false, decide_eq_true, decide_eq_false, Bool.not_true, Bool.not_false, Int.toNat_natCast, List.length_append, List.length_cons, List.length_nil, List.drop_zero, Nat.zero_add, Nat.add_zero, decT, decF, bneI_t, bneI_f, h1, h3, h5, hw]
theorem lawP_LexemeLines {dats : List Dat} (h : DatOk tau [.string] dats) : F_law05_LexemeLines dats = some [.b true] := by
  obtain ⟨s, r, rfl, hs, rfl⟩ := h
  exact lexemeLines s
end Go.Proofs.YtgehedalhppehaaDoor
