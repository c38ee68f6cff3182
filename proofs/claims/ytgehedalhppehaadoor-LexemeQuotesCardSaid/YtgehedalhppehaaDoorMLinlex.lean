/-
  Lines: texts are split.
-/
import Derived.Test.YtgehedalhppehaaDoorFlex
import Derived.Test.YtgehedalhppehaaDoorAx32
import Derived.Test.YtgehedalhppehaaDoorAx39
namespace Go.Proofs.YtgehedalhppehaaDoor
open Go.Ax Go.Lib
set_option linter.all false
set_option maxHeartbeats 4000000
set_option maxRecDepth 100000
attribute [local congr] cond_cong bind_cong onI_cong onB_cong onS_cong onN_cong onL_cong

/-! Rows of strings. -/
theorem strsOf_cons (s : Ax.S) (l : List AV) : strsOf (.str s :: l) = (strsOf l).map (s.v :: ·) := rfl
theorem strsOf_get : ∀ {l : List AV} {xs : List (List UInt8)}, strsOf l = some xs → ∀ {i : Nat}, i < xs.length → asS l[i]? = some (xs.getD i [])
  | [], xs, h, i, hi => by cases h; simp at hi
  | c :: l, xs, h, i, hi => by
    unfold strsOf at h
    split at h
    · rename_i e; cases e
    · rename_i n l e
      cases e
      cases hb : strsOf l with
      | none => rw [hb] at h; cases h
      | some s' =>
        rw [hb] at h
        cases h
        cases i with
        | zero => rfl
        | succ i => simpa using strsOf_get hb (by simpa using hi)
    · cases h
theorem strsOf_closed : ∀ {l : List AV} {xs : List (List UInt8)}, strsOf l = some xs → l.all (closedN 20) = true
  | [], xs, h => rfl
  | c :: l, xs, h => by
    unfold strsOf at h
    split at h
    · rename_i e; cases e
    · rename_i n l e
      cases e
      cases hb : strsOf l with
      | none => rw [hb] at h; cases h
      | some s' => rw [List.all_cons, strsOf_closed hb]; rfl
    · cases h
theorem strsOf_append : ∀ {l m : List AV} {xs ys : List (List UInt8)}, strsOf l = some xs → strsOf m = some ys → strsOf (l ++ m) = some (xs ++ ys)
  | [], m, xs, ys, h, k => by cases h; simpa using k
  | c :: l, m, xs, ys, h, k => by
    unfold strsOf at h
    split at h
    · rename_i e; cases e
    · rename_i n l e
      cases e
      cases hb : strsOf l with
      | none => rw [hb] at h; cases h
      | some s' =>
        rw [hb] at h
        cases h
        rw [List.cons_append, strsOf_cons, strsOf_append hb k]; rfl
    · cases h
theorem strsOf_take : ∀ {l : List AV} {xs : List (List UInt8)} (n : Nat), strsOf l = some xs → strsOf (l.take n) = some (xs.take n)
  | [], xs, n, h => by cases h; simp [strsOf]
  | c :: l, xs, 0, h => by simp [strsOf]
  | c :: l, xs, n + 1, h => by
    unfold strsOf at h
    split at h
    · rename_i e; cases e
    · rename_i n l e
      cases e
      cases hb : strsOf l with
      | none => rw [hb] at h; cases h
      | some s' =>
        rw [hb] at h
        cases h
        rw [List.take_succ_cons, strsOf_cons, strsOf_take _ hb]; rfl
    · cases h
theorem strsOf_drop : ∀ {l : List AV} {xs : List (List UInt8)} (n : Nat), strsOf l = some xs → strsOf (l.drop n) = some (xs.drop n)
  | [], xs, n, h => by cases h; simp [strsOf]
  | c :: l, xs, 0, h => by simpa using h
  | c :: l, xs, n + 1, h => by
    unfold strsOf at h
    split at h
    · rename_i e; cases e
    · rename_i n l e
      cases e
      cases hb : strsOf l with
      | none => rw [hb] at h; cases h
      | some s' =>
        rw [hb] at h
        cases h
        simpa using strsOf_drop _ hb
    · cases h
theorem strsOf_write {l : List AV} {xs : List (List UInt8)} (h : strsOf l = some xs) {i : Nat} (hi : i < xs.length) (s : Ax.S) : strsOf (Ax.write l i [.str s]) = some (xs.take i ++ s.v :: xs.drop (i + 1)) := by
  unfold Ax.write
  have := strsOf_append (strsOf_append (strsOf_take i h) (show strsOf [AV.str s] = some [s.v] from rfl)) (strsOf_drop (i + 1) h)
  simpa using this
theorem strsOf_zeros : ∀ n : Nat, strsOf (listC n [AV.str (.lit [])]) = some (List.replicate n [])
  | 0 => rfl
  | n + 1 => by
    have : listC (n + 1) [AV.str (.lit [])] = .str (.lit []) :: listC n [AV.str (.lit [])] := rfl
    rw [this, strsOf_cons, strsOf_zeros n]; rfl

/-! slices.Equal. -/
theorem equal_run {l m : List AV} {xs ys : List (List UInt8)} (h : strsOf l = some xs) (k : strsOf m = some ys) (hn : xs.length = ys.length) (hl : xs.length < 4611686018427387904) : ∀ (n i : Nat), i + n = xs.length → xs.take i = ys.take i →
    iter F_slices_Equalstring_string__L0 [.n xs.length, .l l, .n ys.length, .l m, .i ((xs.length : Nat) : Int), .i ((i : Nat) : Int)] = some [.b (decide (xs = ys))] := by
  intro n
  induction n with
  | zero =>
    intro i hi ht
    have e : xs = ys := by
      rw [List.take_of_length_le (by omega), List.take_of_length_le (by omega)] at ht; exact ht
    rw [decide_eq_true e]
    refine iter_end ?_
    unfold F_slices_Equalstring_string__L0
    simp (disch := omega) only [onI_c, onS_c, onB_c, onN_c, onL_c, Option.bind_some, Option.map_some, cond_true, cond_false, ↓onI_c, ↓onS_c, ↓onB_c, ↓onN_c, ↓onL_c, ↓Option.bind_some, ↓cond_true, ↓cond_false, decide_eq_true, decide_eq_false, Bool.not_true, Bool.not_false, Int.toNat_natCast, List.length_append, List.length_cons, List.length_nil, List.drop_zero, Nat.zero_add, Nat.add_zero, decT, decF, bneI_t, bneI_f]
  | succ n ih =>
    intro i hi ht
    have e1 := strsOf_get h (i := i) (by omega)
    have e2 := strsOf_get k (i := i) (by omega)
    have e3 : i64 ((i : Int) + 1) = ((i + 1 : Nat) : Int) := by rw [i64_in _ (by omega)]; omega
    by_cases hx : xs.getD i [] = ys.getD i []
    · have hb : (xs.getD i [] == ys.getD i []) = true := by rw [hx]; exact beq_self_eq_true _
      rw [iter_next (y := [.n xs.length, .l l, .n ys.length, .l m, .i ((xs.length : Nat) : Int), .i ((i + 1 : Nat) : Int)]), ih (i + 1) (by omega) (by
        rw [List.take_succ, List.take_succ, ht]
        simp only [List.getD_eq_getElem?_getD] at hx
        rw [List.getElem?_eq_getElem (by omega), List.getElem?_eq_getElem (by omega)] at hx ⊢
        simp only [Option.getD_some] at hx
        rw [hx])]
      unfold F_slices_Equalstring_string__L0
      simp (disch := omega) only [onI_c, onS_c, onB_c, onN_c, onL_c, Option.bind_some, Option.map_some, cond_true, cond_false, ↓onI_c, ↓onS_c, ↓onB_c, ↓onN_c, ↓onL_c, ↓Option.bind_some, ↓cond_true, ↓cond_false, decide_eq_true, decide_eq_false, Bool.not_true, Bool.not_false, Int.toNat_natCast, List.length_append, List.length_cons, List.length_nil, List.drop_zero, Nat.zero_add, Nat.add_zero, decT, decF, bneI_t, bneI_f, e1, e2, hb, e3]
    · have hb : (xs.getD i [] == ys.getD i []) = false := beq_f hx
      rw [decide_eq_false (fun e => hx (by rw [e]))]
      refine iter_end ?_
      unfold F_slices_Equalstring_string__L0
      simp (disch := omega) only [onI_c, onS_c, onB_c, onN_c, onL_c, Option.bind_some, Option.map_some, cond_true, cond_false, ↓onI_c, ↓onS_c, ↓onB_c, ↓onN_c, ↓onL_c, ↓Option.bind_some, ↓cond_true, ↓cond_false, decide_eq_true, decide_eq_false, Bool.not_true, Bool.not_false, Int.toNat_natCast, List.length_append, List.length_cons, List.length_nil, List.drop_zero, Nat.zero_add, Nat.add_zero, decT, decF, bneI_t, bneI_f, e1, e2, hb, e3]
theorem equal_at {l m : List AV} {xs ys : List (List UInt8)} (h : strsOf l = some xs) (k : strsOf m = some ys) {a b : Nat} (ha : a = xs.length) (hb : b = ys.length) (hl : xs.length < 4611686018427387904) :
    F_slices_Equalstring_string_ [.n a, .l l, .n b, .l m] = some [.b (decide (xs = ys))] := by
  subst ha hb
  unfold F_slices_Equalstring_string_
  by_cases hn : xs.length = ys.length
  · have := equal_run h k hn hl xs.length 0 (by omega) (by simp)
    simp (disch := omega) only [onI_c, onS_c, onB_c, onN_c, onL_c, Option.bind_some, Option.map_some, cond_true, cond_false, ↓onI_c, ↓onS_c, ↓onB_c, ↓onN_c, ↓onL_c, ↓Option.bind_some, ↓cond_true, ↓cond_false, decide_eq_true, decide_eq_false, Bool.not_true, Bool.not_false, Int.toNat_natCast, List.length_append, List.length_cons, List.length_nil, List.drop_zero, Nat.zero_add, Nat.add_zero, decT, decF, bneI_t, bneI_f]
    exact this
  · rw [decide_eq_false (fun e => hn (by rw [e]))]
    simp (disch := omega) only [onI_c, onS_c, onB_c, onN_c, onL_c, Option.bind_some, Option.map_some, cond_true, cond_false, ↓onI_c, ↓onS_c, ↓onB_c, ↓onN_c, ↓onL_c, ↓Option.bind_some, ↓cond_true, ↓cond_false, decide_eq_true, decide_eq_false, Bool.not_true, Bool.not_false, Int.toNat_natCast, List.length_append, List.length_cons, List.length_nil, List.drop_zero, Nat.zero_add, Nat.add_zero, decT, decF, bneI_t, bneI_f]

/-! Lines. -/
def spl : List UInt8 → List (List UInt8)
  | [] => [[]]
  | c :: t => if c = 10 then [] :: spl t else match spl t with
    | [] => [[c]]
    | l :: ls => (c :: l) :: ls
theorem spl_none : ∀ {a : List UInt8}, (10 : UInt8) ∉ a → spl a = [a]
  | [], h => rfl
  | c :: t, h => by
    have h1 : ¬ c = 10 := fun e => h (by rw [e]; exact List.mem_cons_self ..)
    unfold spl
    rw [if_neg h1, spl_none (fun q => h (List.mem_cons_of_mem _ q))]
theorem spl_app : ∀ {a t : List UInt8}, (10 : UInt8) ∉ a → spl (a ++ 10 :: t) = a :: spl t
  | [], t, h => by rw [List.nil_append]; conv => lhs; unfold spl
                   rw [if_pos rfl]
  | c :: a, t, h => by
    have h1 : ¬ c = 10 := fun e => h (by rw [e]; exact List.mem_cons_self ..)
    rw [List.cons_append]
    conv => lhs; unfold spl
    rw [if_neg h1, spl_app (fun q => h (List.mem_cons_of_mem _ q))]
theorem spl_length : ∀ s : List UInt8, (spl s).length = s.count 10 + 1
  | [] => rfl
  | c :: t => by
    have ih := spl_length t
    unfold spl
    by_cases hc : c = 10
    · rw [if_pos hc, List.length_cons, ih, hc, List.count_cons_self]
    · rw [if_neg hc, List.count_cons_of_ne hc]
      cases ht : spl t with
      | nil => rw [ht] at ih; simp at ih
      | cons l ls => rw [ht] at ih; simpa using ih
theorem spl_ne (s : List UInt8) : spl s ≠ [] := fun h => by have := spl_length s; rw [h] at this; simp at this
theorem first10 : ∀ (s : List UInt8), (10 : UInt8) ∉ s ∨ ∃ a t, s = a ++ 10 :: t ∧ (10 : UInt8) ∉ a
  | [] => .inl (by simp)
  | c :: s => by
    by_cases hc : c = 10
    · exact .inr ⟨[], s, by rw [hc]; rfl, by simp⟩
    · rcases first10 s with h | ⟨a, t, rfl, ha⟩
      · exact .inl (by simp [h]; exact fun e => hc e.symm)
      · exact .inr ⟨c :: a, t, rfl, by simp [ha]; exact fun e => hc e.symm⟩
theorem index_no {s : List UInt8} {c : UInt8} (h : c ∉ s) : Lib.index s [c] = -1 := by
  induction s with
  | nil => rfl
  | cons b s ih =>
    have hb : (c == b) = false := beq_f (fun e => h (e ▸ List.mem_cons_self ..))
    unfold Lib.index
    rw [show List.isPrefixOf [c] (b :: s) = false by simp [List.isPrefixOf, hb], ih (fun q => h (List.mem_cons_of_mem _ q))]
    rfl
theorem index_at {s t : List UInt8} {c : UInt8} (h : c ∉ s) : Lib.index (s ++ c :: t) [c] = s.length := by
  induction s with
  | nil =>
    rw [List.nil_append]; unfold Lib.index
    rw [show List.isPrefixOf [c] (c :: t) = true by simp [List.isPrefixOf]]; rfl
  | cons b s ih =>
    have hb : (c == b) = false := beq_f (fun e => h (e ▸ List.mem_cons_self ..))
    rw [List.cons_append]
    unfold Lib.index
    rw [show List.isPrefixOf [c] (b :: (s ++ c :: t)) = false by simp [List.isPrefixOf, hb], ih (fun q => h (List.mem_cons_of_mem _ q))]
    have : ((s.length : Int) == -1) = false := beq_f (by omega)
    rw [this, List.length_cons]; simp
theorem sidx_no {s : List UInt8} {c : UInt8} (h : c ∉ s) (hl : s.length < 4294967281) : strIndex [.s s, .s [c]] = some [.i (-1)] := by
  unfold strIndex
  simp only [onS_c]
  rw [if_pos hl, index_no h]
theorem sidx_at {a t : List UInt8} {c : UInt8} (h : c ∉ a) (hl : (a ++ c :: t).length < 4294967281) : strIndex [.s (a ++ c :: t), .s [c]] = some [.i ((a.length : Nat) : Int)] := by
  unfold strIndex
  simp only [onS_c]
  rw [if_pos hl, index_at h]

theorem take_set {xs : List (List UInt8)} {i : Nat} (hi : i < xs.length) (v : List UInt8) : (xs.take i ++ v :: xs.drop (i + 1)).length = xs.length := by
  simp; omega

theorem genSplit_run {N : Nat} (hN : N < 4294967281) : ∀ (n i : Nat) (s : List UInt8) (cells : List AV) (dn : List (List UInt8)), i + n = N → dn.length = i → s.count 10 = n → s.length ≤ 8388608 → strsOf cells = some (dn ++ List.replicate (n + 1) []) →
    ∃ l, iter F_strings_genSplit_L0 [.s s, .s [10], .i 0, .i ((N : Nat) : Int), .n (N + 1), .n (N + 1), .i ((i : Nat) : Int), .l cells] = some [.n (N + 1), .l l] ∧ strsOf l = some (dn ++ spl s) := by
  intro n
  induction n with
  | zero =>
    intro i s cells dn hi hd hc hs hl
    have h10 : (10 : UInt8) ∉ s := List.count_eq_zero.1 hc
    have hx := strsOf_len hl
    rw [List.length_append, List.length_replicate] at hx
    have hw := strsOf_write hl (i := i) (by simp; omega) (.sym s)
    have hwl := strsOf_len hw
    have htk := strsOf_take (N + 1) hw
    have hwc := strsOf_closed htk
    have e3 : i64 ((i : Int) + 1) = ((N + 1 : Nat) : Int) := by rw [i64_in _ (by omega)]; omega
    have e4 : (Ax.write cells i [.str (.sym s)]).length = N + 1 := by
      rw [← hwl]
      have : (dn ++ List.replicate (0 + 1) ([] : List UInt8)).length = N + 1 := by simp; omega
      rw [take_set (by omega), this]
    have e5 : N + 1 ≤ (Ax.write cells i [.str (.sym s)]).length := by omega
    have e6 : ([AV.str (.sym s)]).length = 1 := rfl
    refine ⟨List.take (N + 1) (Ax.write cells i [.str (.sym s)]), iter_end ?_, ?_⟩
    · unfold F_strings_genSplit_L0
      have hcl : cells.length = N + 1 := by omega
      clear hw hwl htk hl hx
      simp (disch := omega) only [onI_c, onS_c, onB_c, onN_c, onL_c, Option.bind_some, Option.map_some, cond_true, cond_false, ↓onI_c, ↓onS_c, ↓onB_c, ↓onN_c, ↓onL_c, ↓Option.bind_some, ↓cond_true, ↓cond_false, decide_eq_true, decide_eq_false, Bool.not_true, Bool.not_false, Int.toNat_natCast, List.length_append, List.length_cons, List.length_nil, List.drop_zero, Nat.zero_add, Nat.add_zero, decT, decF, bneI_t, bneI_f, e3, e6, Nat.mul_one, hwc]
    · have htk' := strsOf_take (N + 1) hw
      rw [htk', spl_none h10]
      congr 1
      have e7 : List.take i (dn ++ List.replicate (0 + 1) ([] : List UInt8)) = dn := List.take_left' hd
      have e8 : List.drop (i + 1) (dn ++ List.replicate (0 + 1) ([] : List UInt8)) = [] := List.drop_of_length_le (by simp; omega)
      rw [e7, e8]
      exact List.take_of_length_le (by simp; omega)
  | succ n ih =>
    intro i s cells dn hi hd hc hs hl
    rcases first10 s with h10 | ⟨a, t, rfl, ha⟩
    · rw [List.count_eq_zero.2 h10] at hc; omega
    have hx := strsOf_len hl
    rw [List.length_append, List.length_replicate] at hx
    have hw := strsOf_write hl (i := i) (by simp; omega) (.sym a)
    have hwc := strsOf_closed hw
    have hlen : (a ++ 10 :: t).length = a.length + (t.length + 1) := by simp
    have hct : t.count 10 = n := by
      rw [List.count_append, List.count_eq_zero.2 ha, List.count_cons_self] at hc; omega
    have e3 : i64 ((i : Int) + 1) = ((i + 1 : Nat) : Int) := by rw [i64_in _ (by omega)]; omega
    have hidx := sidx_at (c := 10) (a := a) (t := t) ha (by omega)
    have e5 : List.take a.length (a ++ 10 :: t) = a := List.take_left
    have e6 : List.take ((a ++ 10 :: t).length - (a.length + 1)) (List.drop (a.length + 1) (a ++ 10 :: t)) = t := by
      have e : List.drop (a.length + 1) (a ++ 10 :: t) = t := by
        rw [show a ++ 10 :: t = (a ++ [10]) ++ t by simp]; exact List.drop_left' (by simp)
      rw [e, hlen]
      exact List.take_of_length_le (by omega)
    have e7 : i64 (((a.length : Nat) : Int) + 0) = ((a.length : Nat) : Int) := by rw [i64_in _ (by omega)]; omega
    have e8 : i64 (((a.length : Nat) : Int) + ((1 : Nat) : Int)) = ((a.length + 1 : Nat) : Int) := by rw [i64_in _ (by omega)]; omega
    have e9 : ([AV.str (.sym a)]).length = 1 := rfl
    have hl' : strsOf (Ax.write cells i [.str (.sym a)]) = some ((dn ++ [a]) ++ List.replicate (n + 1) []) := by
      rw [hw]
      congr 1
      subst hd
      rw [List.take_left' rfl, List.drop_append, List.drop_of_length_le (by omega), List.nil_append, show dn.length + 1 - dn.length = 1 by omega, List.replicate_succ]
      simp
      rfl
    obtain ⟨l, h1, h2⟩ := ih (i + 1) t _ (dn ++ [a]) (by omega) (by simp; omega) hct (by omega) hl'
    refine ⟨l, ?_, by rw [h2, spl_app ha]; simp⟩
    rw [iter_next (y := [.s t, .s [10], .i 0, .i ((N : Nat) : Int), .n (N + 1), .n (N + 1), .i ((i + 1 : Nat) : Int), .l (Ax.write cells i [.str (.sym a)])]), h1]
    unfold F_strings_genSplit_L0
    clear hl hw hl' h1 h2 ih
    have hle : a.length ≤ (a ++ 10 :: t).length := by omega
    have hle2 : a.length + 1 ≤ (a ++ 10 :: t).length := by omega
    generalize hg : (a ++ 10 :: t) = g at *
    simp (disch := omega) only [onI_c, onS_c, onB_c, onN_c, onL_c, Option.bind_some, Option.map_some, cond_true, cond_false, ↓onI_c, ↓onS_c, ↓onB_c, ↓onN_c, ↓onL_c, ↓Option.bind_some, ↓cond_true, ↓cond_false, decide_eq_true, decide_eq_false, Bool.not_true, Bool.not_false, Int.toNat_natCast, List.length_append, List.length_cons, List.length_nil, List.drop_zero, Nat.zero_add, Nat.add_zero, decT, decF, bneI_t, bneI_f, hidx, e3, e7, e8, e9, e5, e6, hwc]

theorem split_at {s : List UInt8} (hs : s.length ≤ 8388608) : ∃ l, F_strings_Split [.s s, .s [10]] = some [.n (spl s).length, .l l] ∧ strsOf l = some (spl s) := by
  have hc : s.count 10 ≤ s.length := List.count_le_length
  obtain ⟨l, h1, h2⟩ := genSplit_run (N := s.count 10) (by omega) (s.count 10) 0 s (listC (s.count 10 + 1) [AV.str (.lit [])]) [] (by omega) rfl rfl hs (by rw [strsOf_zeros]; rfl)
  refine ⟨l, ?_, h2⟩
  have hcnt : strCount1 [.s s, .s [10]] = some [.i ((s.count 10 : Nat) : Int)] := rfl
  have e1 : i64 (((s.length : Nat) : Int) + 1) = ((s.length + 1 : Nat) : Int) := by rw [i64_in _ (by omega)]; omega
  have e2 : i64 (((s.count 10 : Nat) : Int) + 1) = ((s.count 10 + 1 : Nat) : Int) := by rw [i64_in _ (by omega)]; omega
  have e3 : (if (((s.length + 1 : Nat) : Int)) < ((s.count 10 + 1 : Nat) : Int) then ((s.length + 1 : Nat) : Int) else ((s.count 10 + 1 : Nat) : Int)) = ((s.count 10 + 1 : Nat) : Int) := if_neg (by omega)
  have e4 : i64 (((s.count 10 + 1 : Nat) : Int) - 1) = ((s.count 10 : Nat) : Int) := by rw [i64_in _ (by omega)]; omega
  have e5 := strsOf_closed (strsOf_zeros (s.count 10 + 1))
  have e6 : (([10] : List UInt8) == []) = false := rfl
  have e7 : F_strings_genSplit [.s s, .s [10], .i 0, .i (-1)] = some [.n (s.count 10 + 1), .l l] := by
    rw [← h1]
    unfold F_strings_genSplit
    simp (disch := omega) only [onI_c, onS_c, onB_c, onN_c, onL_c, Option.bind_some, Option.map_some, cond_true, cond_false, ↓onI_c, ↓onS_c, ↓onB_c, ↓onN_c, ↓onL_c, ↓Option.bind_some, ↓cond_true, ↓cond_false, decide_eq_true, decide_eq_false, Bool.not_true, Bool.not_false, Int.toNat_natCast, List.length_append, List.length_cons, List.length_nil, List.drop_zero, Nat.zero_add, Nat.add_zero, decT, decF, bneI_t, bneI_f, e6, hcnt, e1, e2, e3, e4, e5]
    rfl
  unfold F_strings_Split
  simp (disch := omega) only [onI_c, onS_c, onB_c, onN_c, onL_c, Option.bind_some, Option.map_some, cond_true, cond_false, ↓onI_c, ↓onS_c, ↓onB_c, ↓onN_c, ↓onL_c, ↓Option.bind_some, ↓cond_true, ↓cond_false, decide_eq_true, decide_eq_false, Bool.not_true, Bool.not_false, Int.toNat_natCast, List.length_append, List.length_cons, List.length_nil, List.drop_zero, Nat.zero_add, Nat.add_zero, decT, decF, bneI_t, bneI_f, e7, spl_length]
end Go.Proofs.YtgehedalhppehaaDoor
