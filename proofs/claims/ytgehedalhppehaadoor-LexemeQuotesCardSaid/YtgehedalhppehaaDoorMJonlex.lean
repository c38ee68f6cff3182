/-
  Lines out of fields: both ways.
-/
import Derived.Test.YtgehedalhppehaaDoorMFljlex
namespace Go.Proofs.YtgehedalhppehaaDoor
open Go.Ax Go.Lib
set_option linter.all false
set_option maxHeartbeats 4000000
set_option maxRecDepth 100000
attribute [local congr] cond_cong bind_cong onI_cong onB_cong onS_cong onN_cong onL_cong

def joinR (acc : List UInt8) (first : Bool) (xs : List (List UInt8)) : List UInt8 × Int := if xs.all wrB = true then (if 300 < (acc ++ jn first xs).length then ([], 6) else (acc ++ jn first xs, 0)) else ([], 2)
theorem joinR_V (xs : List (List UInt8)) : joinR [] true xs = joinV xs := by unfold joinR joinV; rw [List.nil_append]
theorem joinR_step {acc x : List UInt8} {first : Bool} {xs : List (List UInt8)} (h : wrB x = true) : joinR acc first (x :: xs) = joinR (acc ++ (if first = true then [] else [32]) ++ item x) false xs := by
  unfold joinR
  rw [List.all_cons, h, Bool.true_and, jn]
  simp only [List.append_assoc]
theorem joinR_bad {acc x : List UInt8} {first : Bool} {xs : List (List UInt8)} (h : wrB x = false) : joinR acc first (x :: xs) = ([], 2) := by
  unfold joinR
  rw [List.all_cons, h, Bool.false_and]
  rfl
theorem item_q {x : List UInt8} (h : bareB x = false) : item x = ([34] ++ x) ++ [34] := by unfold item; rw [h]; rfl
theorem item_b {x : List UInt8} (h : bareB x = true) : item x = x := by unfold item; rw [h]; rfl

theorem join_run {xs : List (List UInt8)} {l : List AV} (h : strsOf l = some xs) (hN : xs.length ≤ 1000) (hb : ∀ x ∈ xs, x.length ≤ 2000) : ∀ (m i : Nat) (acc : List UInt8) (cells : List AV), i + m = xs.length → Ax.bytesOf cells = some acc → acc.length ≤ i * 2003 →
    iter F_lexeme_Join_L0 [.n xs.length, .l l, .i ((xs.length : Nat) : Int), .i ((i : Nat) : Int), .n acc.length, .l cells] = some [.s (joinR acc (decide (i = 0)) (xs.drop i)).1, .i (joinR acc (decide (i = 0)) (xs.drop i)).2] := by
  intro m
  induction m with
  | zero =>
    intro i acc cells hi hc ha
    obtain ⟨hcc, hcl⟩ := bytesOf_closed hc
    rw [List.drop_of_length_le (by omega)]
    have e : joinR acc (decide (i = 0)) [] = if 300 < acc.length then ([], 6) else (acc, 0) := by unfold joinR; simp [jn]
    rw [e]
    have ha2 : acc.length ≤ 1000 * 2003 := by have : i * 2003 ≤ 1000 * 2003 := Nat.mul_le_mul_right _ (by omega); omega
    refine iter_end ?_
    unfold F_lexeme_Join_L0
    by_cases h3 : 300 < acc.length
    · rw [if_pos h3]
      clear h hc
      simp (disch := omega) only [onI_c, onS_c, onB_c, onN_c, onL_c, Option.bind_some, Option.map_some, cond_true, cond_false, ↓onI_c, ↓onS_c, ↓onB_c, ↓onN_c, ↓onL_c, ↓Option.bind_some, ↓cond_true, ↓cond_false, decide_eq_true, decide_eq_false, Bool.not_true, Bool.not_false, Int.toNat_natCast, List.length_append, List.length_cons, List.length_nil, List.drop_zero, Nat.zero_add, Nat.add_zero, decT, decF, bneI_t, bneI_f]
    · rw [if_neg h3]
      clear h
      simp (disch := omega) only [onI_c, onS_c, onB_c, onN_c, onL_c, Option.bind_some, Option.map_some, cond_true, cond_false, ↓onI_c, ↓onS_c, ↓onB_c, ↓onN_c, ↓onL_c, ↓Option.bind_some, ↓cond_true, ↓cond_false, decide_eq_true, decide_eq_false, Bool.not_true, Bool.not_false, Int.toNat_natCast, List.length_append, List.length_cons, List.length_nil, List.drop_zero, Nat.zero_add, Nat.add_zero, decT, decF, bneI_t, bneI_f, hc]
  | succ m ih =>
    intro i acc cells hi hc ha
    have hlt : i < xs.length := by omega
    have g1 := strsOf_get h hlt
    have g4 : i64 ((i : Int) + 1) = ((i + 1 : Nat) : Int) := by rw [i64_in _ (by omega)]; omega
    have e4 : xs.drop i = xs.getD i [] :: xs.drop (i + 1) := by
      rw [List.drop_eq_getElem_cons hlt]; simp [List.getD, hlt]
    have hmem : xs.getD i [] ∈ xs := by
      have : xs.getD i [] = xs[i] := by simp [List.getD, hlt]
      rw [this]; exact List.getElem_mem hlt
    have hxl := hb _ hmem
    have ha2 : acc.length ≤ 1000 * 2003 := by have : i * 2003 ≤ 1000 * 2003 := Nat.mul_le_mul_right _ (by omega); omega
    have hw := writable_at (xs.getD i []) (by omega)
    rw [e4]
    generalize hx : xs.getD i [] = x at *
    clear e4
    cases hwr : wrB x with
    | false =>
      rw [hwr] at hw
      rw [joinR_bad hwr]
      refine iter_end ?_
      unfold F_lexeme_Join_L0
      clear h hc ih hb ha
      simp (disch := omega) only [onI_c, onS_c, onB_c, onN_c, onL_c, Option.bind_some, Option.map_some, cond_true, cond_false, ↓onI_c, ↓onS_c, ↓onB_c, ↓onN_c, ↓onL_c, ↓Option.bind_some, ↓cond_true, ↓cond_false, decide_eq_true, decide_eq_false, Bool.not_true, Bool.not_false, Int.toNat_natCast, List.length_append, List.length_cons, List.length_nil, List.drop_zero, Nat.zero_add, Nat.add_zero, decT, decF, bneI_t, bneI_f, g1, hw]
    | true =>
      rw [hwr] at hw
      rw [joinR_step hwr]
      obtain ⟨hcc, hcl⟩ := bytesOf_closed hc
      have hil := item_length x
      have nx : ∀ cells', Ax.bytesOf cells' = some (acc ++ (if decide (i = 0) = true then [] else [32]) ++ item x) → F_lexeme_Join_L0 [.n xs.length, .l l, .i ((xs.length : Nat) : Int), .i ((i : Nat) : Int), .n acc.length, .l cells] =
            some (.inl [.n xs.length, .l l, .i ((xs.length : Nat) : Int), .i ((i + 1 : Nat) : Int), .n (acc ++ (if decide (i = 0) = true then [] else [32]) ++ item x).length, .l cells']) →
          iter F_lexeme_Join_L0 [.n xs.length, .l l, .i ((xs.length : Nat) : Int), .i ((i : Nat) : Int), .n acc.length, .l cells] = some [.s (joinR (acc ++ (if decide (i = 0) = true then [] else [32]) ++ item x) false (xs.drop (i + 1))).1, .i (joinR (acc ++ (if decide (i = 0) = true then [] else [32]) ++ item x) false (xs.drop (i + 1))).2] := by
        intro cells' k1 k2
        rw [iter_next k2, ih (i + 1) _ cells' (by omega) k1 (by
          rw [List.length_append, List.length_append]
          have : (if decide (i = 0) = true then ([] : List UInt8) else [32]).length ≤ 1 := by split <;> simp
          omega)]
        rfl
      have hcat : x ≠ [] → strContainsAny [.s x, .s [32, 35]] = some [.b (!bareB x)] := fun hne => ca_at hwr hne (by omega)
      have hbne : bareB x = true → x ≠ [] := by rintro hb rfl; cases hb
      have h32 : Ax.bytesOf (cells ++ [.int .u8 (.lit 32)]) = some (acc ++ [32]) := bytesOf_append hc rfl
      obtain ⟨h32c, h32l⟩ := bytesOf_closed h32
      by_cases hi0 : i = 0
      · rw [decide_eq_true hi0] at nx ⊢
        rw [if_pos rfl, List.append_nil] at nx ⊢
        cases hbx : bareB x with
        | true =>
          rw [item_b hbx] at nx ⊢
          have hne := hbne hbx
          have hca := hcat hne
          rw [hbx] at hca
          have hk := bytesOf_append hc (bytesOf_cells x)
          have hkc := (bytesOf_closed hk).1
          refine nx _ hk ?_
          have hs0 : (x == []) = false := beq_f hne
          rw [List.length_append]
          unfold F_lexeme_Join_L0
          clear h hc ih hb ha nx hk h32
          simp (disch := omega) only [onI_c, onS_c, onB_c, onN_c, onL_c, Option.bind_some, Option.map_some, cond_true, cond_false, ↓onI_c, ↓onS_c, ↓onB_c, ↓onN_c, ↓onL_c, ↓Option.bind_some, ↓cond_true, ↓cond_false, decide_eq_true, decide_eq_false, Bool.not_true, Bool.not_false, Int.toNat_natCast, List.length_append, List.length_cons, List.length_nil, List.drop_zero, Nat.zero_add, Nat.add_zero, decT, decF, bneI_t, bneI_f, g1, g4, hw, hs0, hca, hkc]
        | false =>
          rw [item_q hbx] at nx ⊢
          have hk := bytesOf_append hc (bytesOf_cells (([34] ++ x) ++ [34]))
          have hkc := (bytesOf_closed hk).1
          refine nx _ hk ?_
          rw [List.length_append]
          unfold F_lexeme_Join_L0
          clear h hc ih hb ha nx hk h32
          by_cases hne : x = []
          · subst hne
            have hs0 : (([] : List UInt8) == []) = true := rfl
            simp (disch := omega) only [onI_c, onS_c, onB_c, onN_c, onL_c, Option.bind_some, Option.map_some, cond_true, cond_false, ↓onI_c, ↓onS_c, ↓onB_c, ↓onN_c, ↓onL_c, ↓Option.bind_some, ↓cond_true, ↓cond_false, decide_eq_true, decide_eq_false, Bool.not_true, Bool.not_false, Int.toNat_natCast, List.length_append, List.length_cons, List.length_nil, List.drop_zero, Nat.zero_add, Nat.add_zero, decT, decF, bneI_t, bneI_f, g1, g4, hw, hs0, hkc]
          · have hca := hcat hne
            rw [hbx] at hca
            have hs0 : (x == []) = false := beq_f hne
            simp (disch := omega) only [onI_c, onS_c, onB_c, onN_c, onL_c, Option.bind_some, Option.map_some, cond_true, cond_false, ↓onI_c, ↓onS_c, ↓onB_c, ↓onN_c, ↓onL_c, ↓Option.bind_some, ↓cond_true, ↓cond_false, decide_eq_true, decide_eq_false, Bool.not_true, Bool.not_false, Int.toNat_natCast, List.length_append, List.length_cons, List.length_nil, List.drop_zero, Nat.zero_add, Nat.add_zero, decT, decF, bneI_t, bneI_f, g1, g4, hw, hs0, hca, hkc]
      · rw [decide_eq_false hi0] at nx ⊢
        rw [if_neg (by simp)] at nx ⊢
        cases hbx : bareB x with
        | true =>
          rw [item_b hbx] at nx ⊢
          have hne := hbne hbx
          have hca := hcat hne
          rw [hbx] at hca
          have hk := bytesOf_append h32 (bytesOf_cells x)
          have hkc := (bytesOf_closed hk).1
          refine nx _ hk ?_
          have hs0 : (x == []) = false := beq_f hne
          rw [List.length_append, List.length_append, List.length_singleton]
          unfold F_lexeme_Join_L0
          clear h hc ih hb ha nx hk h32
          simp (disch := omega) only [onI_c, onS_c, onB_c, onN_c, onL_c, Option.bind_some, Option.map_some, cond_true, cond_false, ↓onI_c, ↓onS_c, ↓onB_c, ↓onN_c, ↓onL_c, ↓Option.bind_some, ↓cond_true, ↓cond_false, decide_eq_true, decide_eq_false, Bool.not_true, Bool.not_false, Int.toNat_natCast, List.length_append, List.length_cons, List.length_nil, List.drop_zero, Nat.zero_add, Nat.add_zero, decT, decF, bneI_t, bneI_f, g1, g4, hw, hs0, hca, hkc]
        | false =>
          rw [item_q hbx] at nx ⊢
          have hk := bytesOf_append h32 (bytesOf_cells (([34] ++ x) ++ [34]))
          have hkc := (bytesOf_closed hk).1
          refine nx _ hk ?_
          rw [List.length_append, List.length_append, List.length_singleton]
          unfold F_lexeme_Join_L0
          clear h hc ih hb ha nx hk h32
          by_cases hne : x = []
          · subst hne
            have hs0 : (([] : List UInt8) == []) = true := rfl
            simp (disch := omega) only [onI_c, onS_c, onB_c, onN_c, onL_c, Option.bind_some, Option.map_some, cond_true, cond_false, ↓onI_c, ↓onS_c, ↓onB_c, ↓onN_c, ↓onL_c, ↓Option.bind_some, ↓cond_true, ↓cond_false, decide_eq_true, decide_eq_false, Bool.not_true, Bool.not_false, Int.toNat_natCast, List.length_append, List.length_cons, List.length_nil, List.drop_zero, Nat.zero_add, Nat.add_zero, decT, decF, bneI_t, bneI_f, g1, g4, hw, hs0, hkc]
          · have hca := hcat hne
            rw [hbx] at hca
            have hs0 : (x == []) = false := beq_f hne
            simp (disch := omega) only [onI_c, onS_c, onB_c, onN_c, onL_c, Option.bind_some, Option.map_some, cond_true, cond_false, ↓onI_c, ↓onS_c, ↓onB_c, ↓onN_c, ↓onL_c, ↓Option.bind_some, ↓cond_true, ↓cond_false, decide_eq_true, decide_eq_false, Bool.not_true, Bool.not_false, Int.toNat_natCast, List.length_append, List.length_cons, List.length_nil, List.drop_zero, Nat.zero_add, Nat.add_zero, decT, decF, bneI_t, bneI_f, g1, g4, hw, hs0, hca, hkc]
theorem join_at {xs : List (List UInt8)} {l : List AV} (h : strsOf l = some xs) (hN : xs.length ≤ 1000) (hb : ∀ x ∈ xs, x.length ≤ 2000) {n : Nat} (hn : n = xs.length) : F_lexeme_Join [.n n, .l l] = some [.s (joinV xs).1, .i (joinV xs).2] := by
  subst hn
  have k := join_run h hN hb xs.length 0 [] [] (by omega) rfl (by simp)
  rw [List.drop_zero, decide_eq_true rfl, joinR_V] at k
  unfold F_lexeme_Join
  simp only [onI_c, onS_c, onB_c, onN_c, onL_c, Option.bind_some, Option.map_some, cond_true, cond_false, ↓onI_c, ↓onS_c, ↓onB_c, ↓onN_c, ↓onL_c, ↓Option.bind_some, ↓cond_true, ↓cond_false, decide_eq_true, decide_eq_false, Bool.not_true, Bool.not_false, Int.toNat_natCast, List.length_append, List.length_cons, List.length_nil, List.drop_zero, Nat.zero_add, Nat.add_zero, decT, decF, bneI_t, bneI_f]
  exact k

/-! The document's way. -/
theorem bare_run (s : List UInt8) (hl : s.length < 4611686018427387904) : ∀ (t p : List UInt8), s = p ++ t → iter F_ref05_bare_L0 [.s s, .i ((p.length : Nat) : Int)] = some [.b (!(s == []) && t.all fun c => decide (c.toNat ≠ 32 ∧ c.toNat ≠ 35))] := by
  intro t
  induction t with
  | nil =>
    intro p ht
    have hlen : s.length = p.length := by rw [ht]; simp
    refine iter_end ?_
    rw [List.all_nil, Bool.and_true]
    unfold F_ref05_bare_L0
    cases hs : (s == []) with
    | true => simp (disch := omega) only [onI_c, onS_c, onB_c, onN_c, onL_c, Option.bind_some, Option.map_some, cond_true, cond_false, ↓onI_c, ↓onS_c, ↓onB_c, ↓onN_c, ↓onL_c, ↓Option.bind_some, ↓cond_true, ↓cond_false, decide_eq_true, decide_eq_false, Bool.not_true, Bool.not_false, Int.toNat_natCast, List.length_append, List.length_cons, List.length_nil, List.drop_zero, Nat.zero_add, Nat.add_zero, decT, decF, bneI_t, bneI_f, hs]
    | false => simp (disch := omega) only [onI_c, onS_c, onB_c, onN_c, onL_c, Option.bind_some, Option.map_some, cond_true, cond_false, ↓onI_c, ↓onS_c, ↓onB_c, ↓onN_c, ↓onL_c, ↓Option.bind_some, ↓cond_true, ↓cond_false, decide_eq_true, decide_eq_false, Bool.not_true, Bool.not_false, Int.toNat_natCast, List.length_append, List.length_cons, List.length_nil, List.drop_zero, Nat.zero_add, Nat.add_zero, decT, decF, bneI_t, bneI_f, hs]
  | cons c t ih =>
    intro p ht
    have hlen : s.length = p.length + (t.length + 1) := by rw [ht]; simp
    have hg : s.getD p.length 0 = c := by rw [ht]; exact getD_at p t c
    have hi : i64 (((p.length : Nat) : Int) + 1) = ((p.length + 1 : Nat) : Int) := by rw [i64_in _ (by omega)]; omega
    have hp2 : (p ++ [c]).length = p.length + 1 := by simp
    have k := ih (p ++ [c]) (by rw [ht]; simp)
    rw [hp2] at k
    rw [List.all_cons]
    by_cases hc : c.toNat ≠ 32 ∧ c.toNat ≠ 35
    · rw [decide_eq_true hc, Bool.true_and, iter_next (y := [.s s, .i ((p.length + 1 : Nat) : Int)]), k]
      unfold F_ref05_bare_L0
      clear ih k ht
      simp (disch := omega) only [onI_c, onS_c, onB_c, onN_c, onL_c, Option.bind_some, Option.map_some, cond_true, cond_false, ↓onI_c, ↓onS_c, ↓onB_c, ↓onN_c, ↓onL_c, ↓Option.bind_some, ↓cond_true, ↓cond_false, decide_eq_true, decide_eq_false, Bool.not_true, Bool.not_false, Int.toNat_natCast, List.length_append, List.length_cons, List.length_nil, List.drop_zero, Nat.zero_add, Nat.add_zero, decT, decF, bneI_t, bneI_f, hg, hi]
    · rw [decide_eq_false hc, Bool.false_and, Bool.and_false]
      refine iter_end ?_
      unfold F_ref05_bare_L0
      clear ih k ht
      by_cases h1 : c.toNat = 32
      · simp (disch := omega) only [onI_c, onS_c, onB_c, onN_c, onL_c, Option.bind_some, Option.map_some, cond_true, cond_false, ↓onI_c, ↓onS_c, ↓onB_c, ↓onN_c, ↓onL_c, ↓Option.bind_some, ↓cond_true, ↓cond_false, decide_eq_true, decide_eq_false, Bool.not_true, Bool.not_false, Int.toNat_natCast, List.length_append, List.length_cons, List.length_nil, List.drop_zero, Nat.zero_add, Nat.add_zero, decT, decF, bneI_t, bneI_f, hg, hi]
      · simp (disch := omega) only [onI_c, onS_c, onB_c, onN_c, onL_c, Option.bind_some, Option.map_some, cond_true, cond_false, ↓onI_c, ↓onS_c, ↓onB_c, ↓onN_c, ↓onL_c, ↓Option.bind_some, ↓cond_true, ↓cond_false, decide_eq_true, decide_eq_false, Bool.not_true, Bool.not_false, Int.toNat_natCast, List.length_append, List.length_cons, List.length_nil, List.drop_zero, Nat.zero_add, Nat.add_zero, decT, decF, bneI_t, bneI_f, hg, hi]
theorem bare_at (s : List UInt8) (hl : s.length < 4611686018427387904) : F_ref05_bare [.s s] = some [.b (bareB s)] := by
  have h := bare_run s hl s [] rfl
  unfold F_ref05_bare
  simp only [onI_c, onS_c, onB_c, onN_c, onL_c, Option.bind_some, Option.map_some, cond_true, cond_false, ↓onI_c, ↓onS_c, ↓onB_c, ↓onN_c, ↓onL_c, ↓Option.bind_some, ↓cond_true, ↓cond_false, decide_eq_true, decide_eq_false, Bool.not_true, Bool.not_false, Int.toNat_natCast, List.length_append, List.length_cons, List.length_nil, List.drop_zero, Nat.zero_add, Nat.add_zero, decT, decF, bneI_t, bneI_f]
  exact h
theorem refWr_run (a : Nat) (l : List AV) (out : List UInt8) (k : Nat) (hk : k ≤ 1000) (s : List UInt8) (hl : s.length < 4611686018427387904) : ∀ (t p : List UInt8), s = p ++ t → iter F_ref05_Join_L1 [.n a, .l l, .s out, .i ((k : Nat) : Int), .s s, .i ((p.length : Nat) : Int)] =
    some (if wrB t = true then .inl [.n a, .l l, .s out, .i ((k + 1 : Nat) : Int)] else .inr [.s [], .i 2]) := by
  intro t
  have hk1 : i64 ((k : Int) + 1) = ((k + 1 : Nat) : Int) := by rw [i64_in _ (by omega)]; omega
  induction t with
  | nil =>
    intro p ht
    have hlen : s.length = p.length := by rw [ht]; simp
    refine iter_end ?_
    rw [if_pos (show wrB [] = true from rfl)]
    unfold F_ref05_Join_L1
    simp (disch := omega) only [onI_c, onS_c, onB_c, onN_c, onL_c, Option.bind_some, Option.map_some, cond_true, cond_false, ↓onI_c, ↓onS_c, ↓onB_c, ↓onN_c, ↓onL_c, ↓Option.bind_some, ↓cond_true, ↓cond_false, decide_eq_true, decide_eq_false, Bool.not_true, Bool.not_false, Int.toNat_natCast, List.length_append, List.length_cons, List.length_nil, List.drop_zero, Nat.zero_add, Nat.add_zero, decT, decF, bneI_t, bneI_f, hk1]
  | cons c t ih =>
    intro p ht
    have hlen : s.length = p.length + (t.length + 1) := by rw [ht]; simp
    have hg : s.getD p.length 0 = c := by rw [ht]; exact getD_at p t c
    have hi : i64 (((p.length : Nat) : Int) + 1) = ((p.length + 1 : Nat) : Int) := by rw [i64_in _ (by omega)]; omega
    have hp2 : (p ++ [c]).length = p.length + 1 := by simp
    have k := ih (p ++ [c]) (by rw [ht]; simp)
    rw [hp2] at k
    by_cases hc : 32 ≤ c.toNat ∧ c.toNat ≤ 126 ∧ c.toNat ≠ 34
    · have e : wrB (c :: t) = wrB t := by unfold wrB; rw [List.all_cons, decide_eq_true hc, Bool.true_and]
      rw [e, iter_next, k]
      unfold F_ref05_Join_L1
      clear ih k ht
      simp (disch := omega) only [onI_c, onS_c, onB_c, onN_c, onL_c, Option.bind_some, Option.map_some, cond_true, cond_false, ↓onI_c, ↓onS_c, ↓onB_c, ↓onN_c, ↓onL_c, ↓Option.bind_some, ↓cond_true, ↓cond_false, decide_eq_true, decide_eq_false, Bool.not_true, Bool.not_false, Int.toNat_natCast, List.length_append, List.length_cons, List.length_nil, List.drop_zero, Nat.zero_add, Nat.add_zero, decT, decF, bneI_t, bneI_f, hg, hi]
    · have e : wrB (c :: t) = false := by unfold wrB; rw [List.all_cons, decide_eq_false hc, Bool.false_and]
      rw [e, if_neg (by simp)]
      refine iter_end ?_
      unfold F_ref05_Join_L1
      clear ih k ht
      by_cases h1 : c.toNat < 32
      · simp (disch := omega) only [onI_c, onS_c, onB_c, onN_c, onL_c, Option.bind_some, Option.map_some, cond_true, cond_false, ↓onI_c, ↓onS_c, ↓onB_c, ↓onN_c, ↓onL_c, ↓Option.bind_some, ↓cond_true, ↓cond_false, decide_eq_true, decide_eq_false, Bool.not_true, Bool.not_false, Int.toNat_natCast, List.length_append, List.length_cons, List.length_nil, List.drop_zero, Nat.zero_add, Nat.add_zero, decT, decF, bneI_t, bneI_f, hg, hi]
      · by_cases h2 : 126 < c.toNat
        · simp (disch := omega) only [onI_c, onS_c, onB_c, onN_c, onL_c, Option.bind_some, Option.map_some, cond_true, cond_false, ↓onI_c, ↓onS_c, ↓onB_c, ↓onN_c, ↓onL_c, ↓Option.bind_some, ↓cond_true, ↓cond_false, decide_eq_true, decide_eq_false, Bool.not_true, Bool.not_false, Int.toNat_natCast, List.length_append, List.length_cons, List.length_nil, List.drop_zero, Nat.zero_add, Nat.add_zero, decT, decF, bneI_t, bneI_f, hg, hi]
        · simp (disch := omega) only [onI_c, onS_c, onB_c, onN_c, onL_c, Option.bind_some, Option.map_some, cond_true, cond_false, ↓onI_c, ↓onS_c, ↓onB_c, ↓onN_c, ↓onL_c, ↓Option.bind_some, ↓cond_true, ↓cond_false, decide_eq_true, decide_eq_false, Bool.not_true, Bool.not_false, Int.toNat_natCast, List.length_append, List.length_cons, List.length_nil, List.drop_zero, Nat.zero_add, Nat.add_zero, decT, decF, bneI_t, bneI_f, hg, hi]
theorem refJoin2_run {xs : List (List UInt8)} {l : List AV} (h : strsOf l = some xs) (hN : xs.length ≤ 1000) (hb : ∀ x ∈ xs, x.length ≤ 2000) : ∀ (m i : Nat) (acc : List UInt8), i + m = xs.length → acc.length ≤ i * 2003 →
    iter F_ref05_Join_L2 [.n xs.length, .l l, .s acc, .i ((i : Nat) : Int)] = some [.s (if 300 < (acc ++ jn (decide (i = 0)) (xs.drop i)).length then [] else acc ++ jn (decide (i = 0)) (xs.drop i)), .i (if 300 < (acc ++ jn (decide (i = 0)) (xs.drop i)).length then 6 else 0)] := by
  intro m
  induction m with
  | zero =>
    intro i acc hi ha
    rw [List.drop_of_length_le (by omega), jn, List.append_nil]
    refine iter_end ?_
    unfold F_ref05_Join_L2
    by_cases h3 : 300 < acc.length
    · rw [if_pos h3, if_pos h3]
      clear h
      simp (disch := omega) only [onI_c, onS_c, onB_c, onN_c, onL_c, Option.bind_some, Option.map_some, cond_true, cond_false, ↓onI_c, ↓onS_c, ↓onB_c, ↓onN_c, ↓onL_c, ↓Option.bind_some, ↓cond_true, ↓cond_false, decide_eq_true, decide_eq_false, Bool.not_true, Bool.not_false, Int.toNat_natCast, List.length_append, List.length_cons, List.length_nil, List.drop_zero, Nat.zero_add, Nat.add_zero, decT, decF, bneI_t, bneI_f]
    · rw [if_neg h3, if_neg h3]
      clear h
      simp (disch := omega) only [onI_c, onS_c, onB_c, onN_c, onL_c, Option.bind_some, Option.map_some, cond_true, cond_false, ↓onI_c, ↓onS_c, ↓onB_c, ↓onN_c, ↓onL_c, ↓Option.bind_some, ↓cond_true, ↓cond_false, decide_eq_true, decide_eq_false, Bool.not_true, Bool.not_false, Int.toNat_natCast, List.length_append, List.length_cons, List.length_nil, List.drop_zero, Nat.zero_add, Nat.add_zero, decT, decF, bneI_t, bneI_f]
  | succ m ih =>
    intro i acc hi ha
    have hlt : i < xs.length := by omega
    by_cases h3 : 300 < acc.length
    · have h4 : 300 < (acc ++ jn (decide (i = 0)) (xs.drop i)).length := by rw [List.length_append]; omega
      rw [if_pos h4, if_pos h4]
      refine iter_end ?_
      unfold F_ref05_Join_L2
      clear h ih h4
      simp (disch := omega) only [onI_c, onS_c, onB_c, onN_c, onL_c, Option.bind_some, Option.map_some, cond_true, cond_false, ↓onI_c, ↓onS_c, ↓onB_c, ↓onN_c, ↓onL_c, ↓Option.bind_some, ↓cond_true, ↓cond_false, decide_eq_true, decide_eq_false, Bool.not_true, Bool.not_false, Int.toNat_natCast, List.length_append, List.length_cons, List.length_nil, List.drop_zero, Nat.zero_add, Nat.add_zero, decT, decF, bneI_t, bneI_f]
    have g1 := strsOf_get h hlt
    have g4 : i64 ((i : Int) + 1) = ((i + 1 : Nat) : Int) := by rw [i64_in _ (by omega)]; omega
    have e4 : xs.drop i = xs.getD i [] :: xs.drop (i + 1) := by
      rw [List.drop_eq_getElem_cons hlt]; simp [List.getD, hlt]
    have hmem : xs.getD i [] ∈ xs := by
      have : xs.getD i [] = xs[i] := by simp [List.getD, hlt]
      rw [this]; exact List.getElem_mem hlt
    have hxl := hb _ hmem
    rw [e4]
    generalize hx : xs.getD i [] = x at *
    clear e4
    have hba := bare_at x (by omega)
    have hil := item_length x
    have nx : F_ref05_Join_L2 [.n xs.length, .l l, .s acc, .i ((i : Nat) : Int)] = some (.inl [.n xs.length, .l l, .s (acc ++ ((if decide (i = 0) = true then [] else [32]) ++ item x)), .i ((i + 1 : Nat) : Int)]) := by
      unfold F_ref05_Join_L2
      by_cases hi0 : i = 0
      · rw [decide_eq_true hi0, if_pos rfl, List.nil_append]
        cases hbx : bareB x with
        | true =>
          rw [hbx] at hba
          rw [item_b hbx]
          clear h ih hb
          simp (disch := omega) only [onI_c, onS_c, onB_c, onN_c, onL_c, Option.bind_some, Option.map_some, cond_true, cond_false, ↓onI_c, ↓onS_c, ↓onB_c, ↓onN_c, ↓onL_c, ↓Option.bind_some, ↓cond_true, ↓cond_false, decide_eq_true, decide_eq_false, Bool.not_true, Bool.not_false, Int.toNat_natCast, List.length_append, List.length_cons, List.length_nil, List.drop_zero, Nat.zero_add, Nat.add_zero, decT, decF, bneI_t, bneI_f, g1, g4, hba]
        | false =>
          rw [hbx] at hba
          rw [item_q hbx]
          clear h ih hb
          simp (disch := omega) only [onI_c, onS_c, onB_c, onN_c, onL_c, Option.bind_some, Option.map_some, cond_true, cond_false, ↓onI_c, ↓onS_c, ↓onB_c, ↓onN_c, ↓onL_c, ↓Option.bind_some, ↓cond_true, ↓cond_false, decide_eq_true, decide_eq_false, Bool.not_true, Bool.not_false, Int.toNat_natCast, List.length_append, List.length_cons, List.length_nil, List.drop_zero, Nat.zero_add, Nat.add_zero, decT, decF, bneI_t, bneI_f, g1, g4, hba]
      · rw [decide_eq_false hi0, if_neg (by simp)]
        cases hbx : bareB x with
        | true =>
          rw [hbx] at hba
          rw [item_b hbx]
          clear h ih hb
          simp (disch := omega) only [onI_c, onS_c, onB_c, onN_c, onL_c, Option.bind_some, Option.map_some, cond_true, cond_false, ↓onI_c, ↓onS_c, ↓onB_c, ↓onN_c, ↓onL_c, ↓Option.bind_some, ↓cond_true, ↓cond_false, decide_eq_true, decide_eq_false, Bool.not_true, Bool.not_false, Int.toNat_natCast, List.length_append, List.length_cons, List.length_nil, List.drop_zero, Nat.zero_add, Nat.add_zero, decT, decF, bneI_t, bneI_f, g1, g4, hba]
        | false =>
          rw [hbx] at hba
          rw [item_q hbx]
          clear h ih hb
          simp (disch := omega) only [onI_c, onS_c, onB_c, onN_c, onL_c, Option.bind_some, Option.map_some, cond_true, cond_false, ↓onI_c, ↓onS_c, ↓onB_c, ↓onN_c, ↓onL_c, ↓Option.bind_some, ↓cond_true, ↓cond_false, decide_eq_true, decide_eq_false, Bool.not_true, Bool.not_false, Int.toNat_natCast, List.length_append, List.length_cons, List.length_nil, List.drop_zero, Nat.zero_add, Nat.add_zero, decT, decF, bneI_t, bneI_f, g1, g4, hba]
    have e5 : acc ++ jn (decide (i = 0)) (x :: xs.drop (i + 1)) = (acc ++ ((if decide (i = 0) = true then [] else [32]) ++ item x)) ++ jn (decide (i + 1 = 0)) (xs.drop (i + 1)) := by
      rw [jn, decide_eq_false (show ¬ i + 1 = 0 by omega)]
      simp only [List.append_assoc]
    rw [e5, iter_next nx, ih (i + 1) _ (by omega) (by
      rw [List.length_append, List.length_append]
      have : (if decide (i = 0) = true then ([] : List UInt8) else [32]).length ≤ 1 := by split <;> simp
      omega)]
theorem refJoin_run {xs : List (List UInt8)} {l : List AV} (h : strsOf l = some xs) (hN : xs.length ≤ 1000) (hb : ∀ x ∈ xs, x.length ≤ 2000) : ∀ (m i : Nat), i + m = xs.length → (∀ x ∈ xs.take i, wrB x = true) →
    iter F_ref05_Join_L0 [.n xs.length, .l l, .s [], .i ((i : Nat) : Int)] = some [.s (joinV xs).1, .i (joinV xs).2] := by
  intro m
  induction m with
  | zero =>
    intro i hi hw
    rw [List.take_of_length_le (by omega)] at hw
    have hall : xs.all wrB = true := List.all_eq_true.2 hw
    have k := refJoin2_run h hN hb xs.length 0 [] (by omega) (by simp)
    rw [List.drop_zero, List.nil_append, decide_eq_true rfl] at k
    have e : (joinV xs).1 = (if 300 < (jn true xs).length then [] else jn true xs) ∧ (joinV xs).2 = (if 300 < (jn true xs).length then 6 else 0) := by
      unfold joinV
      rw [if_pos hall]
      split <;> exact ⟨rfl, rfl⟩
    rw [e.1, e.2]
    refine iter_end ?_
    rw [show (0 : Int) = ((0 : Nat) : Int) from rfl] at *
    unfold F_ref05_Join_L0
    clear h hb hw e
    simp (disch := omega) only [onI_c, onS_c, onB_c, onN_c, onL_c, Option.bind_some, Option.map_some, cond_true, cond_false, ↓onI_c, ↓onS_c, ↓onB_c, ↓onN_c, ↓onL_c, ↓Option.bind_some, ↓cond_true, ↓cond_false, decide_eq_true, decide_eq_false, Bool.not_true, Bool.not_false, Int.toNat_natCast, List.length_append, List.length_cons, List.length_nil, List.drop_zero, Nat.zero_add, Nat.add_zero, decT, decF, bneI_t, bneI_f]
    rw [show ((0 : Nat) : Int) = 0 from rfl] at k
    rw [k]; rfl
  | succ m ih =>
    intro i hi hw
    have hlt : i < xs.length := by omega
    have g1 := strsOf_get h hlt
    have hmem : xs.getD i [] ∈ xs := by
      have : xs.getD i [] = xs[i] := by simp [List.getD, hlt]
      rw [this]; exact List.getElem_mem hlt
    have hxl := hb _ hmem
    have k := refWr_run xs.length l [] i (by omega) (xs.getD i []) (by omega) (xs.getD i []) [] rfl
    have e : F_ref05_Join_L0 [.n xs.length, .l l, .s [], .i ((i : Nat) : Int)] = iter F_ref05_Join_L1 [.n xs.length, .l l, .s [], .i ((i : Nat) : Int), .s (xs.getD i []), .i ((([] : List UInt8).length : Nat) : Int)] := by
      rw [show ((([] : List UInt8).length : Nat) : Int) = 0 from rfl]
      conv => lhs; unfold F_ref05_Join_L0
      clear h ih hb hw
      simp (disch := omega) only [onI_c, onS_c, onB_c, onN_c, onL_c, Option.bind_some, Option.map_some, cond_true, cond_false, ↓onI_c, ↓onS_c, ↓onB_c, ↓onN_c, ↓onL_c, ↓Option.bind_some, ↓cond_true, ↓cond_false, decide_eq_true, decide_eq_false, Bool.not_true, Bool.not_false, Int.toNat_natCast, List.length_append, List.length_cons, List.length_nil, List.drop_zero, Nat.zero_add, Nat.add_zero, decT, decF, bneI_t, bneI_f, g1]
    rw [k] at e
    cases hwr : wrB (xs.getD i []) with
    | true =>
      rw [hwr, if_pos rfl] at e
      rw [iter_next e, ih (i + 1) (by omega) (by
        intro x hx
        rw [List.take_succ] at hx
        rcases List.mem_append.1 hx with hx | hx
        · exact hw x hx
        · have : xs.getD i [] = xs[i] := by simp [List.getD, hlt]
          rw [this] at hwr
          simp [hlt] at hx
          rw [hx]; exact hwr)]
    | false =>
      rw [hwr, if_neg (by simp)] at e
      rw [iter_end e]
      have : ¬ xs.all wrB = true := fun q => by
        have := List.all_eq_true.1 q _ hmem
        rw [hwr] at this; cases this
      unfold joinV
      rw [if_neg this]
theorem refJoin_at {xs : List (List UInt8)} {l : List AV} (h : strsOf l = some xs) (hN : xs.length ≤ 1000) (hb : ∀ x ∈ xs, x.length ≤ 2000) {n : Nat} (hn : n = xs.length) : F_ref05_Join [.n n, .l l] = some [.s (joinV xs).1, .i (joinV xs).2] := by
  subst hn
  have k := refJoin_run h hN hb xs.length 0 (by omega) (by simp)
  unfold F_ref05_Join
  simp only [onI_c, onS_c, onB_c, onN_c, onL_c, Option.bind_some, Option.map_some, cond_true, cond_false, ↓onI_c, ↓onS_c, ↓onB_c, ↓onN_c, ↓onL_c, ↓Option.bind_some, ↓cond_true, ↓cond_false, decide_eq_true, decide_eq_false, Bool.not_true, Bool.not_false, Int.toNat_natCast, List.length_append, List.length_cons, List.length_nil, List.drop_zero, Nat.zero_add, Nat.add_zero, decT, decF, bneI_t, bneI_f]
  exact k
end Go.Proofs.YtgehedalhppehaaDoor
