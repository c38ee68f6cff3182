/-
  Words: what a string means.
-/
import Derived.Test.YtdpjkapaphelhaaDoorMWrdwor
import Derived.Test.YtdpjkapaphelhaaDoorHWordFind
namespace Go.Proofs.YtdpjkapaphelhaaDoor
open Go.Ax Go.Lib
set_option linter.all false
set_option maxHeartbeats 4000000
set_option maxRecDepth 100000
attribute [local congr] cond_cong bind_cong onI_cong onB_cong onS_cong onN_cong onL_cong

/-- What the specification says, from a place on. -/
def refR (t : List UInt8) : Nat → Int → Nat → List (List UInt8) → Int × Int
  | _, found, cnt, [] => if cnt = 1 then (found, 0) else (0, 8)
  | i, found, cnt, w :: ws => if w = t then ((i : Int), 0) else if t ≠ [] ∧ t.length < w.length ∧ w.take t.length = t then refR t (i + 1) i (cnt + 1) ws else refR t (i + 1) found cnt ws
def lastI2 (found : Int) (h : List (Nat × List UInt8)) : Int := match h.getLast? with
  | some p => p.1
  | none => found
theorem hasP_iff (w t : List UInt8) : Lib.hasPrefix w t = true ↔ w.take t.length = t := by
  unfold Lib.hasPrefix
  rw [List.isPrefixOf_iff_prefix, List.prefix_iff_eq_take]
  exact eq_comm
theorem refR_hits {t : List UInt8} (ht : t ≠ []) : ∀ (ws : List (List UInt8)) (k : Nat) (found : Int) (cnt : Nat), (∀ w ∈ ws, w ≠ []) →
    refR t k found cnt ws = match (hits t k ws).find? (fun p => p.2 == t) with
      | some p => ((p.1 : Int), 0)
      | none => if cnt + (hits t k ws).length = 1 then (lastI2 found (hits t k ws), 0) else (0, 8)
  | [], k, found, cnt, _ => rfl
  | w :: ws, k, found, cnt, hw => by
    have hw0 : w ≠ [] := hw w (List.mem_cons_self ..)
    have ih := fun k found cnt => refR_hits ht ws k found cnt (fun x hx => hw x (List.mem_cons_of_mem _ hx))
    unfold refR
    by_cases h1 : w = t
    · subst h1
      rw [if_pos rfl, hits_in hw0 ((hasP_iff _ _).2 (by simp))]
      simp
    · rw [if_neg h1]
      by_cases h2 : w.take t.length = t
      · have hl : t.length < w.length := by
          have := congrArg List.length h2
          rw [List.length_take] at this
          rcases Nat.lt_or_ge t.length w.length with q | q
          · exact q
          · rw [List.take_of_length_le q] at h2; exact absurd h2 h1
        rw [if_pos ⟨ht, hl, h2⟩, ih, hits_in hw0 ((hasP_iff _ _).2 h2)]
        have hb : (w == t) = false := beq_f h1
        rw [List.find?_cons]
        simp only [hb]
        cases (hits t (k + 1) ws).find? (fun p => p.2 == t) with
        | some p => rfl
        | none =>
          simp only [List.length_cons]
          have e1 : cnt + 1 + (hits t (k + 1) ws).length = cnt + ((hits t (k + 1) ws).length + 1) := by omega
          have e2 : lastI2 (k : Int) (hits t (k + 1) ws) = lastI2 found ((k, w) :: hits t (k + 1) ws) := by
            unfold lastI2
            rw [List.getLast?_cons]
            cases (hits t (k + 1) ws).getLast? <;> rfl
          rw [e1, e2]
      · rw [if_neg (fun q => h2 q.2.2), ih, hits_out (fun q => h2 ((hasP_iff _ _).1 q.2))]
theorem refR_nil : ∀ (ws : List (List UInt8)) (k : Nat) (found : Int), (∀ w ∈ ws, w ≠ []) → refR [] k found 0 ws = (0, 8)
  | [], k, found, _ => rfl
  | w :: ws, k, found, hw => by
    unfold refR
    rw [if_neg (hw w (List.mem_cons_self ..)), if_neg (fun q => q.1 rfl)]
    exact refR_nil ws _ _ (fun x hx => hw x (List.mem_cons_of_mem _ hx))
theorem hits_pad (t : List UInt8) : ∀ (ws : List (List UInt8)) (k m : Nat), hits t k (ws ++ List.replicate m []) = hits t k ws
  | [], k, 0 => rfl
  | [], k, m + 1 => by
    show hits t k ([] :: List.replicate m []) = _
    rw [hits_out (fun q => q.1 rfl)]
    have := hits_pad t [] (k + 1) m
    exact this
  | w :: ws, k, m => by
    rw [List.cons_append]
    by_cases h : w ≠ [] ∧ Lib.hasPrefix w t = true
    · rw [hits_in h.1 h.2, hits_in h.1 h.2, hits_pad t ws]
    · rw [hits_out h, hits_out h, hits_pad t ws]

theorem br_snoc {cells : List AV} {bs : List UInt8} (h : Sm.BR cells bs) (v : Int) (b : UInt8) (hv : v = ((b.toNat : Nat) : Int)) : Sm.BR (cells ++ [.int .u8 (.sym v)]) (bs ++ [b]) := by
  refine ⟨by simp [h.1], fun i hi => ?_⟩
  rw [List.length_append, List.length_singleton] at hi
  by_cases h1 : i < bs.length
  · obtain ⟨n, q1, q2⟩ := h.2 i h1
    refine ⟨n, by rw [List.getElem?_append_left (by rw [h.1]; exact h1)]; exact q1, ?_⟩
    rw [q2]; congr 2
    unfold List.getD
    rw [List.getElem?_append_left h1]
  · obtain rfl : i = bs.length := by omega
    refine ⟨.sym v, by rw [List.getElem?_append_right (by rw [h.1]; exact Nat.le_refl _), h.1, Nat.sub_self]; rfl, ?_⟩
    show v = _
    rw [hv]; congr 2
    unfold List.getD
    rw [List.getElem?_append_right (Nat.le_refl _), Nat.sub_self]; rfl
theorem rsmall_run {s : List UInt8} (hs : s.length ≤ 1000) : ∀ (m i : Nat) (cells : List AV), i + m = s.length → Sm.BR cells (Sm.smallV (s.take i)) → iter F_ref08_small_L0 [.s s, .n i, .i ((i : Nat) : Int), .l cells] = some [.s (Sm.smallV s)] := by
  intro m
  induction m with
  | zero =>
    intro i cells hi hb
    have hb2 := hb.bytes
    rw [List.take_of_length_le (by omega)] at hb2
    have hL : cells.length = i := by rw [hb.1]; unfold Sm.smallV; simp; omega
    refine iter_end ?_
    unfold F_ref08_small_L0
    simp (disch := omega) only [onI_c, onS_c, onB_c, onN_c, onL_c, Option.bind_some, Option.map_some, cond_true, cond_false, ↓onI_c, ↓onS_c, ↓onB_c, ↓onN_c, ↓onL_c, ↓Option.bind_some, ↓cond_true, ↓cond_false, decide_eq_true, decide_eq_false, Bool.not_true, Bool.not_false, Int.toNat_natCast, List.length_append, List.length_cons, List.length_nil, List.drop_zero, Nat.zero_add, Nat.add_zero, decT, decF, bneI_t, bneI_f, hL, hb2]
  | succ m ih =>
    intro i cells hi hb
    have hlt : i < s.length := by omega
    have hL : cells.length = i := by rw [hb.1]; unfold Sm.smallV; simp; omega
    have ht : Sm.smallV (s.take (i + 1)) = Sm.smallV (s.take i) ++ [Sm.low1 (s.getD i 0)] := by
      unfold Sm.smallV
      rw [List.take_succ_eq_append_getElem hlt, List.map_append]
      simp [List.getD, hlt]
    have e2 : i64 ((i : Int) + 1) = ((i + 1 : Nat) : Int) := by rw [i64_in _ (by omega)]; omega
    have hc := (s.getD i 0).toNat_lt
    by_cases h : 65 ≤ (s.getD i 0).toNat ∧ (s.getD i 0).toNat ≤ 90
    · have e4 := Sm.low1_up h
      have e5 : u8 ((u8 ((((s.getD i 0).toNat : Nat) : Int) + 97)) - 65) = (((Sm.low1 (s.getD i 0)).toNat : Nat) : Int) := by
        have a1 := u8_in ((((s.getD i 0).toNat : Nat) : Int) + 97) (by omega)
        have a2 := u8_in ((((s.getD i 0).toNat : Nat) : Int) + 97 - 65) (by omega)
        have a3 := u8_in ((((s.getD i 0).toNat : Nat) : Int) + 32) (by omega)
        rw [a1, a2, ← e4, a3]; omega
      have hn := br_snoc hb _ _ e5
      rw [← ht] at hn
      have hcl := hn.closed
      rw [iter_next (y := [.s s, .n (i + 1), .i ((i + 1 : Nat) : Int), .l (cells ++ [.int .u8 (.sym (u8 ((u8 ((((s.getD i 0).toNat : Nat) : Int) + 97)) - 65)))])]), ih (i + 1) _ (by omega) hn]
      unfold F_ref08_small_L0
      obtain ⟨h65, h90⟩ := h
      clear ht hn e4 e5 hb ih
      generalize hx : (((s.getD i 0).toNat : Nat) : Int) = x at *
      simp (disch := first | assumption | omega) only [onI_c, onS_c, onB_c, onN_c, onL_c, Option.bind_some, Option.map_some, cond_true, cond_false, ↓onI_c, ↓onS_c, ↓onB_c, ↓onN_c, ↓onL_c, ↓Option.bind_some, ↓cond_true, ↓cond_false, decide_eq_true, decide_eq_false, Bool.not_true, Bool.not_false, Int.toNat_natCast, List.length_append, List.length_cons, List.length_nil, List.drop_zero, Nat.zero_add, Nat.add_zero, decT, decF, bneI_t, bneI_f, hx, hL, e2, hcl]
    · have e5 : (((s.getD i 0).toNat : Nat) : Int) = (((Sm.low1 (s.getD i 0)).toNat : Nat) : Int) := by unfold Sm.low1; rw [if_neg h]
      have hn := br_snoc hb _ _ e5
      rw [← ht] at hn
      have hcl := hn.closed
      rw [iter_next (y := [.s s, .n (i + 1), .i ((i + 1 : Nat) : Int), .l (cells ++ [.int .u8 (.sym (((s.getD i 0).toNat : Nat) : Int))])]), ih (i + 1) _ (by omega) hn]
      unfold F_ref08_small_L0
      clear ht hn e5 hb ih
      generalize hx : (((s.getD i 0).toNat : Nat) : Int) = x at *
      by_cases h65 : 65 ≤ x
      · have h90 : ¬ x ≤ 90 := by omega
        simp (disch := first | assumption | omega) only [onI_c, onS_c, onB_c, onN_c, onL_c, Option.bind_some, Option.map_some, cond_true, cond_false, ↓onI_c, ↓onS_c, ↓onB_c, ↓onN_c, ↓onL_c, ↓Option.bind_some, ↓cond_true, ↓cond_false, decide_eq_true, decide_eq_false, Bool.not_true, Bool.not_false, Int.toNat_natCast, List.length_append, List.length_cons, List.length_nil, List.drop_zero, Nat.zero_add, Nat.add_zero, decT, decF, bneI_t, bneI_f, hx, hL, e2, hcl]
      · simp (disch := first | assumption | omega) only [onI_c, onS_c, onB_c, onN_c, onL_c, Option.bind_some, Option.map_some, cond_true, cond_false, ↓onI_c, ↓onS_c, ↓onB_c, ↓onN_c, ↓onL_c, ↓Option.bind_some, ↓cond_true, ↓cond_false, decide_eq_true, decide_eq_false, Bool.not_true, Bool.not_false, Int.toNat_natCast, List.length_append, List.length_cons, List.length_nil, List.drop_zero, Nat.zero_add, Nat.add_zero, decT, decF, bneI_t, bneI_f, hx, hL, e2, hcl]
theorem rsmall_at {s : List UInt8} (hs : s.length ≤ 1000) : F_ref08_small [.s s] = some [.s (Sm.smallV s)] := by
  have h := rsmall_run hs s.length 0 [] (by omega) ⟨rfl, fun i hi => by simp [Sm.smallV] at hi⟩
  unfold F_ref08_small
  exact h
def sc (ws : List (List UInt8)) : List AV := ws.map fun w => .str (.lit w)
theorem sc_at {ws : List (List UInt8)} {i : Nat} (h : i < ws.length) : asS (sc ws)[i]? = some (ws[i]?.getD []) := by
  unfold sc
  rw [List.getElem?_map, List.getElem?_eq_getElem h]; rfl
theorem rfind_run {ws : List (List UInt8)} {n : Nat} (hn : n = ws.length) (hl : n ≤ 12) (t : List UInt8) : ∀ (m i : Nat) (found : Int) (cnt : Nat), i + m = n → cnt ≤ i →
    iter F_ref08_find_L0 [.n n, .l (sc ws), .s t, .i found, .i ((cnt : Nat) : Int), .i ((i : Nat) : Int)] = some [.i (refR t i found cnt (ws.drop i)).1, .i (refR t i found cnt (ws.drop i)).2] := by
  intro m
  induction m with
  | zero =>
    intro i found cnt hi hc
    rw [List.drop_of_length_le (by omega)]
    refine iter_end ?_
    unfold F_ref08_find_L0 refR
    by_cases h : cnt = 1
    · subst h
      rw [if_pos rfl]
      have e : ((1 : Nat) : Int) = 1 := rfl
      simp (disch := omega) only [onI_c, onS_c, onB_c, onN_c, onL_c, Option.bind_some, Option.map_some, cond_true, cond_false, ↓onI_c, ↓onS_c, ↓onB_c, ↓onN_c, ↓onL_c, ↓Option.bind_some, ↓cond_true, ↓cond_false, decide_eq_true, decide_eq_false, Bool.not_true, Bool.not_false, Int.toNat_natCast, List.length_append, List.length_cons, List.length_nil, List.drop_zero, Nat.zero_add, Nat.add_zero, decT, decF, bneI_t, bneI_f]
    · rw [if_neg h]
      simp (disch := omega) only [onI_c, onS_c, onB_c, onN_c, onL_c, Option.bind_some, Option.map_some, cond_true, cond_false, ↓onI_c, ↓onS_c, ↓onB_c, ↓onN_c, ↓onL_c, ↓Option.bind_some, ↓cond_true, ↓cond_false, decide_eq_true, decide_eq_false, Bool.not_true, Bool.not_false, Int.toNat_natCast, List.length_append, List.length_cons, List.length_nil, List.drop_zero, Nat.zero_add, Nat.add_zero, decT, decF, bneI_t, bneI_f]
  | succ m ih =>
    intro i found cnt hi hc
    have hlt : i < ws.length := by omega
    have e1 := sc_at hlt
    have hd : ws.drop i = (ws[i]?.getD []) :: ws.drop (i + 1) := by rw [List.getElem?_eq_getElem hlt]; exact List.drop_eq_getElem_cons hlt
    rw [hd]
    generalize ws[i]?.getD [] = w at *
    have e2 : i64 ((i : Int) + 1) = ((i + 1 : Nat) : Int) := by rw [i64_in _ (by omega)]; omega
    have e3 : i64 ((cnt : Int) + 1) = ((cnt + 1 : Nat) : Int) := by rw [i64_in _ (by omega)]; omega
    unfold refR
    by_cases h1 : w = t
    · rw [if_pos h1]
      have q := beq_t h1
      refine iter_end ?_
      unfold F_ref08_find_L0
      simp (disch := omega) only [onI_c, onS_c, onB_c, onN_c, onL_c, Option.bind_some, Option.map_some, cond_true, cond_false, ↓onI_c, ↓onS_c, ↓onB_c, ↓onN_c, ↓onL_c, ↓Option.bind_some, ↓cond_true, ↓cond_false, decide_eq_true, decide_eq_false, Bool.not_true, Bool.not_false, Int.toNat_natCast, List.length_append, List.length_cons, List.length_nil, List.drop_zero, Nat.zero_add, Nat.add_zero, decT, decF, bneI_t, bneI_f, e1, q]
    · rw [if_neg h1]
      have q := beq_f h1
      by_cases h2 : t ≠ [] ∧ t.length < w.length ∧ w.take t.length = t
      · rw [if_pos h2]
        have q2 := beq_f h2.1
        have q3 := beq_t h2.2.2
        have hlen := h2.2.1
        rw [iter_next (y := [.n n, .l (sc ws), .s t, .i ((i : Nat) : Int), .i ((cnt + 1 : Nat) : Int), .i ((i + 1 : Nat) : Int)]), ih (i + 1) _ _ (by omega) (by omega)]
        unfold F_ref08_find_L0
        simp (disch := omega) only [onI_c, onS_c, onB_c, onN_c, onL_c, Option.bind_some, Option.map_some, cond_true, cond_false, ↓onI_c, ↓onS_c, ↓onB_c, ↓onN_c, ↓onL_c, ↓Option.bind_some, ↓cond_true, ↓cond_false, decide_eq_true, decide_eq_false, Bool.not_true, Bool.not_false, Int.toNat_natCast, List.length_append, List.length_cons, List.length_nil, List.drop_zero, Nat.zero_add, Nat.add_zero, decT, decF, bneI_t, bneI_f, e1, e2, e3, q, q2, q3]
      · rw [if_neg h2]
        rw [iter_next (y := [.n n, .l (sc ws), .s t, .i found, .i ((cnt : Nat) : Int), .i ((i + 1 : Nat) : Int)]), ih (i + 1) _ _ (by omega) (by omega)]
        unfold F_ref08_find_L0
        by_cases h3 : t = []
        · have q2 := beq_t h3
          simp (disch := omega) only [onI_c, onS_c, onB_c, onN_c, onL_c, Option.bind_some, Option.map_some, cond_true, cond_false, ↓onI_c, ↓onS_c, ↓onB_c, ↓onN_c, ↓onL_c, ↓Option.bind_some, ↓cond_true, ↓cond_false, decide_eq_true, decide_eq_false, Bool.not_true, Bool.not_false, Int.toNat_natCast, List.length_append, List.length_cons, List.length_nil, List.drop_zero, Nat.zero_add, Nat.add_zero, decT, decF, bneI_t, bneI_f, e1, e2, e3, q, q2]
        · have q2 := beq_f h3
          by_cases h4 : t.length < w.length
          · have h5 : w.take t.length ≠ t := fun q => h2 ⟨h3, h4, q⟩
            have q3 := beq_f h5
            simp (disch := omega) only [onI_c, onS_c, onB_c, onN_c, onL_c, Option.bind_some, Option.map_some, cond_true, cond_false, ↓onI_c, ↓onS_c, ↓onB_c, ↓onN_c, ↓onL_c, ↓Option.bind_some, ↓cond_true, ↓cond_false, decide_eq_true, decide_eq_false, Bool.not_true, Bool.not_false, Int.toNat_natCast, List.length_append, List.length_cons, List.length_nil, List.drop_zero, Nat.zero_add, Nat.add_zero, decT, decF, bneI_t, bneI_f, e1, e2, e3, q, q2, q3]
          · simp (disch := omega) only [onI_c, onS_c, onB_c, onN_c, onL_c, Option.bind_some, Option.map_some, cond_true, cond_false, ↓onI_c, ↓onS_c, ↓onB_c, ↓onN_c, ↓onL_c, ↓Option.bind_some, ↓cond_true, ↓cond_false, decide_eq_true, decide_eq_false, Bool.not_true, Bool.not_false, Int.toNat_natCast, List.length_append, List.length_cons, List.length_nil, List.drop_zero, Nat.zero_add, Nat.add_zero, decT, decF, bneI_t, bneI_f, e1, e2, e3, q, q2]

/-- What find says, by the specification's words. -/
def more (first : Int) (r : Int × Int) : Int × Int := if r.2 = 0 then (r.1 + first, 0) else (0, r.2)
theorem wrap_small {x : Int} (h : -1000 ≤ x ∧ x ≤ 2000) : RowKit.wrap64 x = x := by unfold RowKit.wrap64; omega
theorem hits_lt (t : List UInt8) : ∀ (ws : List (List UInt8)) (k : Nat), ∀ p ∈ hits t k ws, p.1 < k + ws.length
  | [], k, p, h => by cases h
  | w :: ws, k, p, h => by
    by_cases hh : w ≠ [] ∧ Lib.hasPrefix w t = true
    · rw [hits_in hh.1 hh.2] at h
      rcases List.mem_cons.1 h with rfl | h
      · simp
      · have := hits_lt t ws (k + 1) p h; simp; omega
    · rw [hits_out hh] at h
      have := hits_lt t ws (k + 1) p h; simp; omega
theorem findV_at {ws : List (List UInt8)} {m : Nat} {first : Int} (hf : 0 ≤ first ∧ first ≤ 1000) (hw : ∀ w ∈ ws, w ≠ []) (hl : ws.length ≤ 12) (t : List UInt8) : findV (ws ++ List.replicate m []) first t = more first (refR t 0 (-1) 0 ws) := by
  unfold findV
  rw [hits_pad]
  by_cases ht : t = []
  · subst ht
    rw [refR_nil ws 0 _ hw]
    have hn : (hits [] 0 ws).find? (fun p => p.2 == ([] : List UInt8)) = none := by
      rw [List.find?_eq_none]
      intro p hp
      have key : ∀ (ws : List (List UInt8)) (k : Nat), ∀ p ∈ hits [] k ws, p.2 ≠ [] := by
        intro ws
        induction ws with
        | nil => intro k p h; cases h
        | cons w ws ih =>
          intro k p h
          by_cases hh : w ≠ [] ∧ Lib.hasPrefix w [] = true
          · rw [hits_in hh.1 hh.2] at h
            rcases List.mem_cons.1 h with rfl | h
            · exact hh.1
            · exact ih _ p h
          · rw [hits_out hh] at h; exact ih _ p h
      have := key ws 0 p hp
      simpa using this
    rw [hn]
    rfl
  · rw [refR_hits ht ws 0 _ 0 hw]
    have hlt := hits_lt t ws 0
    cases hfd : (hits t 0 ws).find? (fun p => p.2 == t) with
    | some p =>
      have hp := hlt p (List.mem_of_find?_eq_some hfd)
      show (RowKit.wrap64 (p.1 + first), (0 : Int)) = (((p.1 : Nat) : Int) + first, 0)
      rw [wrap_small (by omega)]
    | none =>
      show (if t = [] ∨ (hits t 0 ws).length ≠ 1 then ((0 : Int), (8 : Int)) else (lastF (hits t 0 ws) first, 0)) = more first (if 0 + (hits t 0 ws).length = 1 then (lastI2 (-1) (hits t 0 ws), 0) else (0, 8))
      by_cases h1 : (hits t 0 ws).length = 1
      · rw [if_neg (fun q => q.elim ht (fun q => q h1)), if_pos (by omega)]
        obtain ⟨p, hp⟩ := List.length_eq_one_iff.1 h1
        have hpl := hlt p (by rw [hp]; exact List.mem_singleton_self _)
        rw [hp]
        show (RowKit.wrap64 (p.1 + first), (0 : Int)) = (((p.1 : Nat) : Int) + first, 0)
        rw [wrap_small (by omega)]
      · rw [if_pos (.inr h1), if_neg (by omega)]; rfl

theorem wordFind_at (w0 w1 w2 w3 w4 w5 w6 w7 w8 w9 w10 w11 s : List UInt8) (first : Int) (hf : 0 ≤ first ∧ first ≤ 1000) (hs : s.length ≤ 1000) : wordFind [.s w0, .s w1, .s w2, .s w3, .s w4, .s w5, .s w6, .s w7, .s w8, .s w9, .s w10, .s w11, .i first, .s s] =
    some [.i (findV [w0, w1, w2, w3, w4, w5, w6, w7, w8, w9, w10, w11] first (Sm.smallV s)).1, .i (findV [w0, w1, w2, w3, w4, w5, w6, w7, w8, w9, w10, w11] first (Sm.smallV s)).2] := by
  show (if 0 ≤ first ∧ first ≤ 1000 ∧ s.length < 4611686018427387904 then _ else none) = _
  rw [if_pos ⟨hf.1, hf.2, by omega⟩]
theorem refR_ok (t : List UInt8) : ∀ (ws : List (List UInt8)) (i : Nat) (found : Int) (cnt : Nat), -1 ≤ found → found ≤ 1000 → i + ws.length ≤ 1000 →
    -1 ≤ (refR t i found cnt ws).1 ∧ (refR t i found cnt ws).1 ≤ 1000 ∧ ((refR t i found cnt ws).2 = 0 ∨ ((refR t i found cnt ws).1 = 0 ∧ (refR t i found cnt ws).2 = 8))
  | [], i, found, cnt, h1, h2, h3 => by
    unfold refR
    split
    · exact ⟨h1, h2, .inl rfl⟩
    · exact ⟨by decide, by decide, .inr ⟨rfl, rfl⟩⟩
  | w :: ws, i, found, cnt, h1, h2, h3 => by
    rw [List.length_cons] at h3
    unfold refR
    split
    · exact ⟨by show (-1 : Int) ≤ (i : Int); omega, by show (i : Int) ≤ 1000; omega, .inl rfl⟩
    · split
      · exact refR_ok t ws (i + 1) i (cnt + 1) (by omega) (by omega) (by omega)
      · exact refR_ok t ws (i + 1) found cnt h1 h2 (by omega)
theorem rfind_at {ws : List (List UInt8)} {n : Nat} (hn : n = ws.length) (hl : n ≤ 12) {s : List UInt8} (hs : s.length ≤ 1000) : F_ref08_find [.n n, .l (sc ws), .s s] = some [.i (refR (Sm.smallV s) 0 (-1) 0 ws).1, .i (refR (Sm.smallV s) 0 (-1) 0 ws).2] := by
  have h := rfind_run hn hl (Sm.smallV s) n 0 (-1) 0 (by omega) (by omega)
  rw [List.drop_zero] at h
  have h0 := rsmall_at hs
  unfold F_ref08_find
  simp only [onI_c, onS_c, onB_c, onN_c, onL_c, Option.bind_some, Option.map_some, cond_true, cond_false, ↓onI_c, ↓onS_c, ↓onB_c, ↓onN_c, ↓onL_c, ↓Option.bind_some, ↓cond_true, ↓cond_false, decide_eq_true, decide_eq_false, Bool.not_true, Bool.not_false, Int.toNat_natCast, List.length_append, List.length_cons, List.length_nil, List.drop_zero, Nat.zero_add, Nat.add_zero, decT, decF, bneI_t, bneI_f, h0]
  exact h
theorem rmore_at {r : Int × Int} (h : -1 ≤ r.1 ∧ r.1 ≤ 1000 ∧ (r.2 = 0 ∨ (r.1 = 0 ∧ r.2 = 8))) : F_ref08_more [.i r.1, .i r.2] = some [.i (more 1 r).1, .i (more 1 r).2] := by
  unfold F_ref08_more more
  have e := i64_in (r.1 + 1) (by omega)
  by_cases h0 : r.2 = 0
  · rw [if_pos h0]
    simp (disch := first | assumption | omega) only [onI_c, onS_c, onB_c, onN_c, onL_c, Option.bind_some, Option.map_some, cond_true, cond_false, ↓onI_c, ↓onS_c, ↓onB_c, ↓onN_c, ↓onL_c, ↓Option.bind_some, ↓cond_true, ↓cond_false, decide_eq_true, decide_eq_false, Bool.not_true, Bool.not_false, Int.toNat_natCast, List.length_append, List.length_cons, List.length_nil, List.drop_zero, Nat.zero_add, Nat.add_zero, decT, decF, bneI_t, bneI_f, e]
  · rw [if_neg h0]
    simp (disch := first | assumption | omega) only [onI_c, onS_c, onB_c, onN_c, onL_c, Option.bind_some, Option.map_some, cond_true, cond_false, ↓onI_c, ↓onS_c, ↓onB_c, ↓onN_c, ↓onL_c, ↓Option.bind_some, ↓cond_true, ↓cond_false, decide_eq_true, decide_eq_false, Bool.not_true, Bool.not_false, Int.toNat_natCast, List.length_append, List.length_cons, List.length_nil, List.drop_zero, Nat.zero_add, Nat.add_zero, decT, decF, bneI_t, bneI_f]
def wsLine : List (List UInt8) := [[114, 117, 108, 101], [122, 111, 110, 101], [108, 105, 110, 107], [115, 104, 105, 102, 116]]
theorem same_Line {s : List UInt8} (hs : s.length ≤ 1000) : ∃ x e, F_word_Line [.s s] = some [.i x, .i e] ∧ F_ref08_Line [.s s] = some [.i x, .i e] := by
  have hf : findV [[114, 117, 108, 101], [122, 111, 110, 101], [108, 105, 110, 107], [115, 104, 105, 102, 116], [], [], [], [], [], [], [], []] 1 (Sm.smallV s) = more 1 (refR (Sm.smallV s) 0 (-1) 0 wsLine) := findV_at (ws := wsLine) (m := 8) (by decide) (by decide) (by decide) _
  have hr := rfind_at (ws := wsLine) (n := 4) rfl (by decide) hs
  have ho := refR_ok (Sm.smallV s) wsLine 0 (-1) 0 (by decide) (by decide) (by decide)
  have hl : F_ref08_lines [] = some [.n 4, .l (sc wsLine)] := rfl
  have hw := wordFind_at [114, 117, 108, 101] [122, 111, 110, 101] [108, 105, 110, 107] [115, 104, 105, 102, 116] [] [] [] [] [] [] [] [] s 1 (by decide) hs
  rw [hf] at hw
  generalize refR (Sm.smallV s) 0 (-1) 0 wsLine = r at *
  have hm := rmore_at ho
  refine ⟨(more 1 r).1, (more 1 r).2, ?_, ?_⟩
  · unfold F_word_Line
    simp only [onI_c, onS_c, onB_c, onN_c, onL_c, Option.bind_some, Option.map_some, cond_true, cond_false, ↓onI_c, ↓onS_c, ↓onB_c, ↓onN_c, ↓onL_c, ↓Option.bind_some, ↓cond_true, ↓cond_false, decide_eq_true, decide_eq_false, Bool.not_true, Bool.not_false, Int.toNat_natCast, List.length_append, List.length_cons, List.length_nil, List.drop_zero, Nat.zero_add, Nat.add_zero, decT, decF, bneI_t, bneI_f, hw]
  · unfold F_ref08_Line
    simp only [onI_c, onS_c, onB_c, onN_c, onL_c, Option.bind_some, Option.map_some, cond_true, cond_false, ↓onI_c, ↓onS_c, ↓onB_c, ↓onN_c, ↓onL_c, ↓Option.bind_some, ↓cond_true, ↓cond_false, decide_eq_true, decide_eq_false, Bool.not_true, Bool.not_false, Int.toNat_natCast, List.length_append, List.length_cons, List.length_nil, List.drop_zero, Nat.zero_add, Nat.add_zero, decT, decF, bneI_t, bneI_f, hl, hr, hm]
def wsMonth : List (List UInt8) := [[106, 97, 110, 117, 97, 114, 121], [102, 101, 98, 114, 117, 97, 114, 121], [109, 97, 114, 99, 104], [97, 112, 114, 105, 108], [109, 97, 121], [106, 117, 110, 101], [106, 117, 108, 121], [97, 117, 103, 117, 115, 116], [115, 101, 112, 116, 101, 109, 98, 101, 114], [111, 99, 116, 111, 98, 101, 114], [110, 111, 118, 101, 109, 98, 101, 114], [100, 101, 99, 101, 109, 98, 101, 114]]
theorem same_Month {s : List UInt8} (hs : s.length ≤ 1000) : ∃ x e, F_word_Month [.s s] = some [.i x, .i e] ∧ F_ref08_Month [.s s] = some [.i x, .i e] := by
  have hf : findV [[106, 97, 110, 117, 97, 114, 121], [102, 101, 98, 114, 117, 97, 114, 121], [109, 97, 114, 99, 104], [97, 112, 114, 105, 108], [109, 97, 121], [106, 117, 110, 101], [106, 117, 108, 121], [97, 117, 103, 117, 115, 116], [115, 101, 112, 116, 101, 109, 98, 101, 114], [111, 99, 116, 111, 98, 101, 114], [110, 111, 118, 101, 109, 98, 101, 114], [100, 101, 99, 101, 109, 98, 101, 114]] 1 (Sm.smallV s) = more 1 (refR (Sm.smallV s) 0 (-1) 0 wsMonth) := findV_at (ws := wsMonth) (m := 0) (by decide) (by decide) (by decide) _
  have hr := rfind_at (ws := wsMonth) (n := 12) rfl (by decide) hs
  have ho := refR_ok (Sm.smallV s) wsMonth 0 (-1) 0 (by decide) (by decide) (by decide)
  have hl : F_ref08_months [] = some [.n 12, .l (sc wsMonth)] := rfl
  have hw := wordFind_at [106, 97, 110, 117, 97, 114, 121] [102, 101, 98, 114, 117, 97, 114, 121] [109, 97, 114, 99, 104] [97, 112, 114, 105, 108] [109, 97, 121] [106, 117, 110, 101] [106, 117, 108, 121] [97, 117, 103, 117, 115, 116] [115, 101, 112, 116, 101, 109, 98, 101, 114] [111, 99, 116, 111, 98, 101, 114] [110, 111, 118, 101, 109, 98, 101, 114] [100, 101, 99, 101, 109, 98, 101, 114] s 1 (by decide) hs
  rw [hf] at hw
  generalize refR (Sm.smallV s) 0 (-1) 0 wsMonth = r at *
  have hm := rmore_at ho
  refine ⟨(more 1 r).1, (more 1 r).2, ?_, ?_⟩
  · unfold F_word_Month
    simp only [onI_c, onS_c, onB_c, onN_c, onL_c, Option.bind_some, Option.map_some, cond_true, cond_false, ↓onI_c, ↓onS_c, ↓onB_c, ↓onN_c, ↓onL_c, ↓Option.bind_some, ↓cond_true, ↓cond_false, decide_eq_true, decide_eq_false, Bool.not_true, Bool.not_false, Int.toNat_natCast, List.length_append, List.length_cons, List.length_nil, List.drop_zero, Nat.zero_add, Nat.add_zero, decT, decF, bneI_t, bneI_f, hw]
  · unfold F_ref08_Month
    simp only [onI_c, onS_c, onB_c, onN_c, onL_c, Option.bind_some, Option.map_some, cond_true, cond_false, ↓onI_c, ↓onS_c, ↓onB_c, ↓onN_c, ↓onL_c, ↓Option.bind_some, ↓cond_true, ↓cond_false, decide_eq_true, decide_eq_false, Bool.not_true, Bool.not_false, Int.toNat_natCast, List.length_append, List.length_cons, List.length_nil, List.drop_zero, Nat.zero_add, Nat.add_zero, decT, decF, bneI_t, bneI_f, hl, hr, hm]
def wsWeek : List (List UInt8) := [[115, 117, 110, 100, 97, 121], [109, 111, 110, 100, 97, 121], [116, 117, 101, 115, 100, 97, 121], [119, 101, 100, 110, 101, 115, 100, 97, 121], [116, 104, 117, 114, 115, 100, 97, 121], [102, 114, 105, 100, 97, 121], [115, 97, 116, 117, 114, 100, 97, 121]]
theorem same_Week {s : List UInt8} (hs : s.length ≤ 1000) : ∃ x e, F_word_Week [.s s] = some [.i x, .i e] ∧ F_ref08_Week [.s s] = some [.i x, .i e] := by
  have hf : findV [[115, 117, 110, 100, 97, 121], [109, 111, 110, 100, 97, 121], [116, 117, 101, 115, 100, 97, 121], [119, 101, 100, 110, 101, 115, 100, 97, 121], [116, 104, 117, 114, 115, 100, 97, 121], [102, 114, 105, 100, 97, 121], [115, 97, 116, 117, 114, 100, 97, 121], [], [], [], [], []] 0 (Sm.smallV s) = more 0 (refR (Sm.smallV s) 0 (-1) 0 wsWeek) := findV_at (ws := wsWeek) (m := 5) (by decide) (by decide) (by decide) _
  have hr := rfind_at (ws := wsWeek) (n := 7) rfl (by decide) hs
  have ho := refR_ok (Sm.smallV s) wsWeek 0 (-1) 0 (by decide) (by decide) (by decide)
  have hl : F_ref08_weeks [] = some [.n 7, .l (sc wsWeek)] := rfl
  have hw := wordFind_at [115, 117, 110, 100, 97, 121] [109, 111, 110, 100, 97, 121] [116, 117, 101, 115, 100, 97, 121] [119, 101, 100, 110, 101, 115, 100, 97, 121] [116, 104, 117, 114, 115, 100, 97, 121] [102, 114, 105, 100, 97, 121] [115, 97, 116, 117, 114, 100, 97, 121] [] [] [] [] [] s 0 (by decide) hs
  rw [hf] at hw
  generalize refR (Sm.smallV s) 0 (-1) 0 wsWeek = r at *
  have hm : more 0 r = r := by
    obtain ⟨a, b⟩ := r
    unfold more
    dsimp only at *
    by_cases h0 : b = 0
    · subst h0
      rw [if_pos rfl, Int.add_zero]
    · rw [if_neg h0]
      have : a = 0 := by omega
      rw [this]
  rw [hm] at hw
  refine ⟨r.1, r.2, ?_, ?_⟩
  · unfold F_word_Week
    simp only [onI_c, onS_c, onB_c, onN_c, onL_c, Option.bind_some, Option.map_some, cond_true, cond_false, ↓onI_c, ↓onS_c, ↓onB_c, ↓onN_c, ↓onL_c, ↓Option.bind_some, ↓cond_true, ↓cond_false, decide_eq_true, decide_eq_false, Bool.not_true, Bool.not_false, Int.toNat_natCast, List.length_append, List.length_cons, List.length_nil, List.drop_zero, Nat.zero_add, Nat.add_zero, decT, decF, bneI_t, bneI_f, hw]
  · unfold F_ref08_Week
    simp only [onI_c, onS_c, onB_c, onN_c, onL_c, Option.bind_some, Option.map_some, cond_true, cond_false, ↓onI_c, ↓onS_c, ↓onB_c, ↓onN_c, ↓onL_c, ↓Option.bind_some, ↓cond_true, ↓cond_false, decide_eq_true, decide_eq_false, Bool.not_true, Bool.not_false, Int.toNat_natCast, List.length_append, List.length_cons, List.length_nil, List.drop_zero, Nat.zero_add, Nat.add_zero, decT, decF, bneI_t, bneI_f, hl, hr]
def wsTo : List (List UInt8) := [[111, 110, 108, 121], [109, 97, 120, 105, 109, 117, 109]]
theorem same_To {s : List UInt8} (hs : s.length ≤ 1000) : ∃ x e, F_word_To [.s s] = some [.i x, .i e] ∧ F_ref08_To [.s s] = some [.i x, .i e] := by
  have hf : findV [[111, 110, 108, 121], [109, 97, 120, 105, 109, 117, 109], [], [], [], [], [], [], [], [], [], []] 1 (Sm.smallV s) = more 1 (refR (Sm.smallV s) 0 (-1) 0 wsTo) := findV_at (ws := wsTo) (m := 10) (by decide) (by decide) (by decide) _
  have hr := rfind_at (ws := wsTo) (n := 2) rfl (by decide) hs
  have ho := refR_ok (Sm.smallV s) wsTo 0 (-1) 0 (by decide) (by decide) (by decide)
  have hl : F_ref08_years [] = some [.n 2, .l (sc wsTo)] := rfl
  have hw := wordFind_at [111, 110, 108, 121] [109, 97, 120, 105, 109, 117, 109] [] [] [] [] [] [] [] [] [] [] s 1 (by decide) hs
  rw [hf] at hw
  generalize refR (Sm.smallV s) 0 (-1) 0 wsTo = r at *
  have hm := rmore_at ho
  refine ⟨(more 1 r).1, (more 1 r).2, ?_, ?_⟩
  · unfold F_word_To
    simp only [onI_c, onS_c, onB_c, onN_c, onL_c, Option.bind_some, Option.map_some, cond_true, cond_false, ↓onI_c, ↓onS_c, ↓onB_c, ↓onN_c, ↓onL_c, ↓Option.bind_some, ↓cond_true, ↓cond_false, decide_eq_true, decide_eq_false, Bool.not_true, Bool.not_false, Int.toNat_natCast, List.length_append, List.length_cons, List.length_nil, List.drop_zero, Nat.zero_add, Nat.add_zero, decT, decF, bneI_t, bneI_f, hw]
  · unfold F_ref08_To
    simp only [onI_c, onS_c, onB_c, onN_c, onL_c, Option.bind_some, Option.map_some, cond_true, cond_false, ↓onI_c, ↓onS_c, ↓onB_c, ↓onN_c, ↓onL_c, ↓Option.bind_some, ↓cond_true, ↓cond_false, decide_eq_true, decide_eq_false, Bool.not_true, Bool.not_false, Int.toNat_natCast, List.length_append, List.length_cons, List.length_nil, List.drop_zero, Nat.zero_add, Nat.add_zero, decT, decF, bneI_t, bneI_f, hl, hr, hm]
theorem lawP_WordFinds {dats : List Dat} (h : DatOk tau [.string] dats) : F_law08_WordFinds dats = some [.b true] := by
  obtain ⟨s, r, rfl, hs, rfl⟩ := h
  unfold F_law08_WordFinds
  by_cases hl : 1000 < s.length
  · simp (disch := omega) only [onI_c, onS_c, onB_c, onN_c, onL_c, Option.bind_some, Option.map_some, cond_true, cond_false, ↓onI_c, ↓onS_c, ↓onB_c, ↓onN_c, ↓onL_c, ↓Option.bind_some, ↓cond_true, ↓cond_false, decide_eq_true, decide_eq_false, Bool.not_true, Bool.not_false, Int.toNat_natCast, List.length_append, List.length_cons, List.length_nil, List.drop_zero, Nat.zero_add, Nat.add_zero, decT, decF, bneI_t, bneI_f, wworks_at]
  · obtain ⟨x1, e1, a1, b1⟩ := same_Line (s := s) (by omega)
    obtain ⟨x2, e2, a2, b2⟩ := same_Month (s := s) (by omega)
    obtain ⟨x3, e3, a3, b3⟩ := same_Week (s := s) (by omega)
    obtain ⟨x4, e4, a4, b4⟩ := same_To (s := s) (by omega)
    have t5 : ∀ x : Int, decide (x = x) = true := fun x => decide_eq_true rfl
    simp (disch := omega) only [onI_c, onS_c, onB_c, onN_c, onL_c, Option.bind_some, Option.map_some, cond_true, cond_false, ↓onI_c, ↓onS_c, ↓onB_c, ↓onN_c, ↓onL_c, ↓Option.bind_some, ↓cond_true, ↓cond_false, decide_eq_true, decide_eq_false, Bool.not_true, Bool.not_false, Int.toNat_natCast, List.length_append, List.length_cons, List.length_nil, List.drop_zero, Nat.zero_add, Nat.add_zero, decT, decF, bneI_t, bneI_f, a1, b1, a2, b2, a3, b3, a4, b4, ↓t5, wworks_at]
end Go.Proofs.YtdpjkapaphelhaaDoor
