/-
  Words: longer ones, shorter ones.
-/
import Derived.Test.YtdpjkapaphelhaaDoorMShowor
namespace Go.Proofs.YtdpjkapaphelhaaDoor
open Go.Ax Go.Lib
set_option linter.all false
set_option maxHeartbeats 4000000
set_option maxRecDepth 100000
attribute [local congr] cond_cong bind_cong onI_cong onB_cong onS_cong onN_cong onL_cong

def FX (F : List Dat → Option (List Dat)) (ws : List (List UInt8)) (first : Int) : Prop := ∀ s : List UInt8, s.length ≤ 1000 → F [.s s] = some [.i (more first (refR (Sm.smallV s) 0 (-1) 0 ws)).1, .i (more first (refR (Sm.smallV s) 0 (-1) 0 ws)).2]
theorem fx_Line : FX F_word_Line wsLine 1 := by
  intro s hs
  have hf : findV [[114, 117, 108, 101], [122, 111, 110, 101], [108, 105, 110, 107], [115, 104, 105, 102, 116], [], [], [], [], [], [], [], []] 1 (Sm.smallV s) = more 1 (refR (Sm.smallV s) 0 (-1) 0 wsLine) := findV_at (ws := wsLine) (m := 8) (by decide) (by decide) (by decide) _
  have hw := wordFind_at [114, 117, 108, 101] [122, 111, 110, 101] [108, 105, 110, 107] [115, 104, 105, 102, 116] [] [] [] [] [] [] [] [] s 1 (by decide) hs
  rw [hf] at hw
  generalize refR (Sm.smallV s) 0 (-1) 0 wsLine = r at *
  unfold F_word_Line
  simp only [onI_c, onS_c, onB_c, onN_c, onL_c, Option.bind_some, Option.map_some, cond_true, cond_false, ↓onI_c, ↓onS_c, ↓onB_c, ↓onN_c, ↓onL_c, ↓Option.bind_some, ↓cond_true, ↓cond_false, decide_eq_true, decide_eq_false, Bool.not_true, Bool.not_false, Int.toNat_natCast, List.length_append, List.length_cons, List.length_nil, List.drop_zero, Nat.zero_add, Nat.add_zero, decT, decF, bneI_t, bneI_f, hw]
theorem fx_Month : FX F_word_Month wsMonth 1 := by
  intro s hs
  have hf : findV [[106, 97, 110, 117, 97, 114, 121], [102, 101, 98, 114, 117, 97, 114, 121], [109, 97, 114, 99, 104], [97, 112, 114, 105, 108], [109, 97, 121], [106, 117, 110, 101], [106, 117, 108, 121], [97, 117, 103, 117, 115, 116], [115, 101, 112, 116, 101, 109, 98, 101, 114], [111, 99, 116, 111, 98, 101, 114], [110, 111, 118, 101, 109, 98, 101, 114], [100, 101, 99, 101, 109, 98, 101, 114]] 1 (Sm.smallV s) = more 1 (refR (Sm.smallV s) 0 (-1) 0 wsMonth) := findV_at (ws := wsMonth) (m := 0) (by decide) (by decide) (by decide) _
  have hw := wordFind_at [106, 97, 110, 117, 97, 114, 121] [102, 101, 98, 114, 117, 97, 114, 121] [109, 97, 114, 99, 104] [97, 112, 114, 105, 108] [109, 97, 121] [106, 117, 110, 101] [106, 117, 108, 121] [97, 117, 103, 117, 115, 116] [115, 101, 112, 116, 101, 109, 98, 101, 114] [111, 99, 116, 111, 98, 101, 114] [110, 111, 118, 101, 109, 98, 101, 114] [100, 101, 99, 101, 109, 98, 101, 114] s 1 (by decide) hs
  rw [hf] at hw
  generalize refR (Sm.smallV s) 0 (-1) 0 wsMonth = r at *
  unfold F_word_Month
  simp only [onI_c, onS_c, onB_c, onN_c, onL_c, Option.bind_some, Option.map_some, cond_true, cond_false, ↓onI_c, ↓onS_c, ↓onB_c, ↓onN_c, ↓onL_c, ↓Option.bind_some, ↓cond_true, ↓cond_false, decide_eq_true, decide_eq_false, Bool.not_true, Bool.not_false, Int.toNat_natCast, List.length_append, List.length_cons, List.length_nil, List.drop_zero, Nat.zero_add, Nat.add_zero, decT, decF, bneI_t, bneI_f, hw]
theorem fx_Week : FX F_word_Week wsWeek 0 := by
  intro s hs
  have hf : findV [[115, 117, 110, 100, 97, 121], [109, 111, 110, 100, 97, 121], [116, 117, 101, 115, 100, 97, 121], [119, 101, 100, 110, 101, 115, 100, 97, 121], [116, 104, 117, 114, 115, 100, 97, 121], [102, 114, 105, 100, 97, 121], [115, 97, 116, 117, 114, 100, 97, 121], [], [], [], [], []] 0 (Sm.smallV s) = more 0 (refR (Sm.smallV s) 0 (-1) 0 wsWeek) := findV_at (ws := wsWeek) (m := 5) (by decide) (by decide) (by decide) _
  have hw := wordFind_at [115, 117, 110, 100, 97, 121] [109, 111, 110, 100, 97, 121] [116, 117, 101, 115, 100, 97, 121] [119, 101, 100, 110, 101, 115, 100, 97, 121] [116, 104, 117, 114, 115, 100, 97, 121] [102, 114, 105, 100, 97, 121] [115, 97, 116, 117, 114, 100, 97, 121] [] [] [] [] [] s 0 (by decide) hs
  rw [hf] at hw
  generalize refR (Sm.smallV s) 0 (-1) 0 wsWeek = r at *
  unfold F_word_Week
  simp only [onI_c, onS_c, onB_c, onN_c, onL_c, Option.bind_some, Option.map_some, cond_true, cond_false, ↓onI_c, ↓onS_c, ↓onB_c, ↓onN_c, ↓onL_c, ↓Option.bind_some, ↓cond_true, ↓cond_false, decide_eq_true, decide_eq_false, Bool.not_true, Bool.not_false, Int.toNat_natCast, List.length_append, List.length_cons, List.length_nil, List.drop_zero, Nat.zero_add, Nat.add_zero, decT, decF, bneI_t, bneI_f, hw]
theorem fx_To : FX F_word_To wsTo 1 := by
  intro s hs
  have hf : findV [[111, 110, 108, 121], [109, 97, 120, 105, 109, 117, 109], [], [], [], [], [], [], [], [], [], []] 1 (Sm.smallV s) = more 1 (refR (Sm.smallV s) 0 (-1) 0 wsTo) := findV_at (ws := wsTo) (m := 10) (by decide) (by decide) (by decide) _
  have hw := wordFind_at [111, 110, 108, 121] [109, 97, 120, 105, 109, 117, 109] [] [] [] [] [] [] [] [] [] [] s 1 (by decide) hs
  rw [hf] at hw
  generalize refR (Sm.smallV s) 0 (-1) 0 wsTo = r at *
  unfold F_word_To
  simp only [onI_c, onS_c, onB_c, onN_c, onL_c, Option.bind_some, Option.map_some, cond_true, cond_false, ↓onI_c, ↓onS_c, ↓onB_c, ↓onN_c, ↓onL_c, ↓Option.bind_some, ↓cond_true, ↓cond_false, decide_eq_true, decide_eq_false, Bool.not_true, Bool.not_false, Int.toNat_natCast, List.length_append, List.length_cons, List.length_nil, List.drop_zero, Nat.zero_add, Nat.add_zero, decT, decF, bneI_t, bneI_f, hw]

theorem hits_mem {t : List UInt8} : ∀ {ws : List (List UInt8)} {k i : Nat} {w : List UInt8}, (i, w) ∈ hits t k ws ↔ ∃ j, j < ws.length ∧ i = k + j ∧ w = ws.getD j [] ∧ w ≠ [] ∧ Lib.hasPrefix w t = true
  | [], k, i, w => by
    constructor
    · intro h; cases h
    · rintro ⟨j, h, _⟩; simp at h
  | v :: ws, k, i, w => by
    have ih := hits_mem (t := t) (ws := ws) (k := k + 1) (i := i) (w := w)
    by_cases hv : v ≠ [] ∧ Lib.hasPrefix v t = true
    · rw [hits_in hv.1 hv.2, List.mem_cons, ih]
      constructor
      · rintro (h | ⟨j, h1, h2, h3, h4⟩)
        · cases h
          exact ⟨0, by simp, rfl, rfl, hv⟩
        · exact ⟨j + 1, by simpa using h1, by omega, by simpa using h3, h4⟩
      · rintro ⟨j, h1, h2, h3, h4⟩
        cases j with
        | zero => left; simp at h3; rw [h3, h2]; rfl
        | succ j => exact .inr ⟨j, by simpa using h1, by omega, by simpa using h3, h4⟩
    · rw [hits_out hv, ih]
      constructor
      · rintro ⟨j, h1, h2, h3, h4⟩
        exact ⟨j + 1, by simpa using h1, by omega, by simpa using h3, h4⟩
      · rintro ⟨j, h1, h2, h3, h4⟩
        cases j with
        | zero => simp at h3; rw [h3] at h4; exact absurd h4 hv
        | succ j => exact ⟨j, by simpa using h1, by omega, by simpa using h3, h4⟩
def pfB (ws : List (List UInt8)) : Bool := (List.range ws.length).all fun i => (List.range ws.length).all fun j => !(Lib.hasPrefix (ws.getD j []) (ws.getD i [])) || i == j
theorem pf_of {ws : List (List UInt8)} (h : pfB ws = true) {i j : Nat} (hi : i < ws.length) (hj : j < ws.length) (hp : Lib.hasPrefix (ws.getD j []) (ws.getD i []) = true) : i = j := by
  unfold pfB at h
  have h1 := List.all_eq_true.1 h i (List.mem_range.2 hi)
  have h2 := List.all_eq_true.1 h1 j (List.mem_range.2 hj)
  rw [hp] at h2
  simpa using h2
/-- A string that means something begins a word. -/
theorem refR_hit {ws : List (List UInt8)} (hne : ∀ w ∈ ws, w ≠ []) {t : List UInt8} (h : (refR t 0 (-1) 0 ws).2 = 0) : t ≠ [] ∧ ∃ j, j < ws.length ∧ (refR t 0 (-1) 0 ws).1 = (j : Int) ∧ Lib.hasPrefix (ws.getD j []) t = true := by
  have ht : t ≠ [] := by rintro rfl; rw [refR_nil ws 0 _ hne] at h; cases h
  refine ⟨ht, ?_⟩
  rw [refR_hits ht ws 0 _ 0 hne] at h ⊢
  cases hfd : (hits t 0 ws).find? (fun p => p.2 == t) with
  | some p =>
    obtain ⟨j, h1, h2, h3, h4, h5⟩ := hits_mem.1 (List.mem_of_find?_eq_some hfd)
    exact ⟨j, h1, by show ((p.1 : Nat) : Int) = _; rw [h2, Nat.zero_add], by rw [← h3]; exact h5⟩
  | none =>
    rw [hfd] at h
    replace h : (if 0 + (hits t 0 ws).length = 1 then (lastI2 (-1) (hits t 0 ws), (0 : Int)) else (0, 8)).2 = 0 := h
    by_cases h1 : 0 + (hits t 0 ws).length = 1
    · obtain ⟨p, hp⟩ := List.length_eq_one_iff.1 (by omega : (hits t 0 ws).length = 1)
      obtain ⟨j, k1, k2, k3, k4, k5⟩ := hits_mem.1 (show (p.1, p.2) ∈ hits t 0 ws by rw [hp]; exact List.mem_singleton_self _)
      refine ⟨j, k1, ?_, by rw [← k3]; exact k5⟩
      show (if 0 + (hits t 0 ws).length = 1 then (lastI2 (-1) (hits t 0 ws), (0 : Int)) else (0, 8)).1 = _
      rw [if_pos h1, hp]
      show ((p.1 : Nat) : Int) = _
      rw [k2, Nat.zero_add]
    · rw [if_neg h1] at h; cases h
/-- .. and nothing else than that word. -/
theorem refR_only {ws : List (List UInt8)} (hne : ∀ w ∈ ws, w ≠ []) (hpf : pfB ws = true) {t : List UInt8} (ht : t ≠ []) (h : (refR t 0 (-1) 0 ws).2 = 0) {j : Nat} (hj : j < ws.length) (hp : Lib.hasPrefix (ws.getD j []) t = true) : (refR t 0 (-1) 0 ws).1 = (j : Int) := by
  have hw : ws.getD j [] ≠ [] := by
    have : ws.getD j [] = ws[j] := by simp [List.getD, hj]
    rw [this]; exact hne _ (List.getElem_mem hj)
  have hm : (j, ws.getD j []) ∈ hits t 0 ws := hits_mem.2 ⟨j, hj, by omega, rfl, hw, hp⟩
  rw [refR_hits ht ws 0 _ 0 hne] at h ⊢
  cases hfd : (hits t 0 ws).find? (fun p => p.2 == t) with
  | some p =>
    have he : p.2 = t := by have := List.find?_some hfd; simpa using this
    obtain ⟨i, h1, h2, h3, h4, h5⟩ := hits_mem.1 (List.mem_of_find?_eq_some hfd)
    have : i = j := pf_of hpf h1 hj (by rw [← h3, he]; exact hp)
    show ((p.1 : Nat) : Int) = _
    rw [h2, this, Nat.zero_add]
  | none =>
    rw [hfd] at h
    replace h : (if 0 + (hits t 0 ws).length = 1 then (lastI2 (-1) (hits t 0 ws), (0 : Int)) else (0, 8)).2 = 0 := h
    by_cases h1 : 0 + (hits t 0 ws).length = 1
    · obtain ⟨p, hp2⟩ := List.length_eq_one_iff.1 (by omega : (hits t 0 ws).length = 1)
      show (if 0 + (hits t 0 ws).length = 1 then (lastI2 (-1) (hits t 0 ws), (0 : Int)) else (0, 8)).1 = _
      rw [if_pos h1]
      rw [hp2] at hm ⊢
      rw [List.mem_singleton] at hm
      show ((p.1 : Nat) : Int) = _
      rw [← hm]
    · rw [if_neg h1] at h; cases h
theorem pre_take {w t : List UInt8} (h : Lib.hasPrefix w t = true) : t.length ≤ w.length ∧ w.take t.length = t := by
  have := (hasP_iff w t).1 h
  refine ⟨?_, this⟩
  have h2 := congrArg List.length this
  rw [List.length_take] at h2; omega
/-- What is said of one list. -/
theorem one_any {F : List Dat → Option (List Dat)} {ws : List (List UInt8)} {first : Int} (h : FX F ws first) (hne : ∀ w ∈ ws, w ≠ []) (hpf : pfB ws = true) (hln : ws.length ≤ 12) {s : List UInt8} (hs : Sm.smallV s = s) (hs' : Sm.smallV (s.take (s.length - 1)) = s.take (s.length - 1)) (hl : s.length ≤ 12) :
    F [.s s] = some [.i 0, .i 8] ∨ ∃ (j : Nat) (x g e : Int), j < ws.length ∧ x = (j : Int) + first ∧ F [.s s] = some [.i x, .i 0] ∧ 0 < s.length ∧ s.length ≤ (ws.getD j []).length ∧ (ws.getD j []).take s.length = s ∧ F [.s (s.take (s.length - 1))] = some [.i g, .i e] ∧ (e = 0 → g = x) := by
  have h1 := h s (by omega)
  have h2 := h (s.take (s.length - 1)) (by rw [List.length_take]; omega)
  rw [hs] at h1
  rw [hs'] at h2
  have ok := refR_ok s ws 0 (-1) 0 (by decide) (by decide) (by omega)
  by_cases h0 : (refR s 0 (-1) 0 ws).2 = 0
  · right
    obtain ⟨ht, j, k1, k2, k3⟩ := refR_hit hne h0
    obtain ⟨p1, p2⟩ := pre_take k3
    have hpos := List.length_pos_iff.2 ht
    refine ⟨j, (j : Int) + first, _, _, k1, rfl, ?_, hpos, p1, p2, h2, ?_⟩
    · rw [h1]; unfold more; rw [if_pos h0, k2]
    · intro he
      have h0' : (refR (s.take (s.length - 1)) 0 (-1) 0 ws).2 = 0 := by
        unfold more at he
        split at he
        · assumption
        · exact he
      obtain ⟨ht', _⟩ := refR_hit hne h0'
      have hp' : Lib.hasPrefix (ws.getD j []) (s.take (s.length - 1)) = true := by
        rw [hasP_iff, List.length_take, Nat.min_eq_left (by omega)]
        calc (ws.getD j []).take (s.length - 1) = ((ws.getD j []).take s.length).take (s.length - 1) := by rw [List.take_take, Nat.min_eq_left (by omega)]
          _ = s.take (s.length - 1) := by rw [p2]
      have := refR_only hne hpf ht' h0' k1 hp'
      unfold more
      rw [if_pos h0', this]
  · left
    rw [h1]
    unfold more
    rw [if_neg h0]
    have : (refR s 0 (-1) 0 ws).2 = 8 := by omega
    rw [this]
def sfB (ws : List (List UInt8)) : Bool := ws.all fun w => ws.all fun v => !(w.isSublist v) || w == v
/-- A letter more. -/
theorem more_any {F : List Dat → Option (List Dat)} {ws : List (List UInt8)} {first : Int} (h : FX F ws first) (hne : ∀ w ∈ ws, w ≠ []) (hsf : sfB ws = true) (hln : ws.length ≤ 12) (hlow : ∀ w ∈ ws, Sm.smallV w = w ∧ w.length ≤ 20) {w : List UInt8} (hw : w ∈ ws) {k : Nat} (hk : k ≤ w.length) (c : UInt8) :
    F [.s ((w.take k ++ [c]) ++ (w.take (w.length)).drop k)] = some [.i 0, .i 8] := by
  obtain ⟨l1, l2⟩ := hlow w hw
  rw [List.take_of_length_le (Nat.le_refl _)]
  have hlen : ((w.take k ++ [c]) ++ w.drop k).length = w.length + 1 := by simp; omega
  have h1 := h ((w.take k ++ [c]) ++ w.drop k) (by omega)
  have hsl : (Sm.smallV ((w.take k ++ [c]) ++ w.drop k)).length = w.length + 1 := by unfold Sm.smallV; rw [List.length_map, hlen]
  have hsub : w.Sublist (Sm.smallV ((w.take k ++ [c]) ++ w.drop k)) := by
    have e : Sm.smallV ((w.take k ++ [c]) ++ w.drop k) = (Sm.smallV (w.take k) ++ [Sm.low1 c]) ++ Sm.smallV (w.drop k) := by unfold Sm.smallV; simp
    have e2 : w = Sm.smallV (w.take k) ++ Sm.smallV (w.drop k) := by
      conv => lhs; rw [← l1]
      unfold Sm.smallV
      rw [← List.map_append, List.take_append_drop]
    rw [e]
    conv => lhs; rw [e2]
    exact List.Sublist.append (List.sublist_append_left _ _) (List.Sublist.refl _)
  generalize Sm.smallV ((w.take k ++ [c]) ++ w.drop k) = t at *
  have ok := refR_ok t ws 0 (-1) 0 (by decide) (by decide) (by omega)
  have h0 : ¬ (refR t 0 (-1) 0 ws).2 = 0 := by
    intro h0
    obtain ⟨ht, j, k1, k2, k3⟩ := refR_hit hne h0
    obtain ⟨p1, p2⟩ := pre_take k3
    have hv : ws.getD j [] ∈ ws := by
      have : ws.getD j [] = ws[j] := by simp [List.getD, k1]
      rw [this]; exact List.getElem_mem k1
    have hts : t.Sublist (ws.getD j []) := by
      have q := List.take_sublist t.length (ws.getD j [])
      rw [p2] at q
      exact q
    have hs2 : w.Sublist (ws.getD j []) := hsub.trans hts
    unfold sfB at hsf
    have q := List.all_eq_true.1 (List.all_eq_true.1 hsf w hw) _ hv
    rw [List.isSublist_iff_sublist.2 hs2] at q
    have q : w = ws.getD j [] := by simpa using q
    rw [← q] at p1
    omega
  rw [h1]
  unfold more
  rw [if_neg h0]
  have : (refR t 0 (-1) 0 ws).2 = 8 := by omega
  rw [this]
theorem more_Line {w : List UInt8} (hw : w ∈ wsLine) {k : Nat} (hk : k ≤ w.length) (c : UInt8) : F_word_Line [.s ((w.take k ++ [c]) ++ List.take (w.length - k) (List.drop k w))] = some [.i 0, .i 8] := by
  have h := more_any fx_Line (by decide) (by decide) (by decide) (by decide) hw hk c
  rw [List.take_of_length_le (Nat.le_refl _)] at h
  rw [List.take_of_length_le (l := List.drop k w) (by simp)]
  exact h
theorem lit_Line {j : Nat} (hj : j < 4) : asS ([(AV.str (.lit ([114, 117, 108, 101] : List UInt8))), (AV.str (.lit ([122, 111, 110, 101] : List UInt8))), (AV.str (.lit ([108, 105, 110, 107] : List UInt8))), (AV.str (.lit ([115, 104, 105, 102, 116] : List UInt8)))])[j]? = some (wsLine.getD j []) := by
  have h := sc_at (ws := wsLine) (i := j) hj
  exact h
theorem one_Line {s : List UInt8} (hs : Sm.smallV s = s) (hs' : Sm.smallV (s.take (s.length - 1)) = s.take (s.length - 1)) (hl : s.length ≤ 12) :
    F_word_Line [.s s] = some [.i 0, .i 8] ∨ ∃ (j : Nat) (x g e : Int), j < 4 ∧ x = (j : Int) + 1 ∧ F_word_Line [.s s] = some [.i x, .i 0] ∧ 0 < s.length ∧ s.length ≤ (wsLine.getD j []).length ∧ (wsLine.getD j []).take s.length = s ∧ F_word_Line [.s (s.take (s.length - 1))] = some [.i g, .i e] ∧ (e = 0 → g = x) :=
  one_any fx_Line (by decide) (by decide) (by decide) hs hs' hl
theorem wl_Line {j : Nat} (hj : j < 4) : wsLine.getD j [] ∈ wsLine ∧ 0 < (wsLine.getD j []).length ∧ (wsLine.getD j []).length ≤ 20 := by
  have : wsLine.getD j [] ∈ wsLine := by
    have e : wsLine.getD j [] = wsLine[j]'hj := by
      rw [List.getD_eq_getElem?_getD, List.getElem?_eq_getElem (show j < wsLine.length from hj)]; rfl
    rw [e]; exact List.getElem_mem _
  refine ⟨this, ?_, ?_⟩
  · exact List.length_pos_iff.2 ((by decide : ∀ w ∈ wsLine, w ≠ []) _ this)
  · exact (by decide : ∀ w ∈ wsLine, w.length ≤ 20) _ this
theorem more_Month {w : List UInt8} (hw : w ∈ wsMonth) {k : Nat} (hk : k ≤ w.length) (c : UInt8) : F_word_Month [.s ((w.take k ++ [c]) ++ List.take (w.length - k) (List.drop k w))] = some [.i 0, .i 8] := by
  have h := more_any fx_Month (by decide) (by decide) (by decide) (by decide) hw hk c
  rw [List.take_of_length_le (Nat.le_refl _)] at h
  rw [List.take_of_length_le (l := List.drop k w) (by simp)]
  exact h
theorem lit_Month {j : Nat} (hj : j < 12) : asS ([(AV.str (.lit ([106, 97, 110, 117, 97, 114, 121] : List UInt8))), (AV.str (.lit ([102, 101, 98, 114, 117, 97, 114, 121] : List UInt8))), (AV.str (.lit ([109, 97, 114, 99, 104] : List UInt8))), (AV.str (.lit ([97, 112, 114, 105, 108] : List UInt8))), (AV.str (.lit ([109, 97, 121] : List UInt8))), (AV.str (.lit ([106, 117, 110, 101] : List UInt8))), (AV.str (.lit ([106, 117, 108, 121] : List UInt8))), (AV.str (.lit ([97, 117, 103, 117, 115, 116] : List UInt8))), (AV.str (.lit ([115, 101, 112, 116, 101, 109, 98, 101, 114] : List UInt8))), (AV.str (.lit ([111, 99, 116, 111, 98, 101, 114] : List UInt8))), (AV.str (.lit ([110, 111, 118, 101, 109, 98, 101, 114] : List UInt8))), (AV.str (.lit ([100, 101, 99, 101, 109, 98, 101, 114] : List UInt8)))])[j]? = some (wsMonth.getD j []) := by
  have h := sc_at (ws := wsMonth) (i := j) hj
  exact h
theorem one_Month {s : List UInt8} (hs : Sm.smallV s = s) (hs' : Sm.smallV (s.take (s.length - 1)) = s.take (s.length - 1)) (hl : s.length ≤ 12) :
    F_word_Month [.s s] = some [.i 0, .i 8] ∨ ∃ (j : Nat) (x g e : Int), j < 12 ∧ x = (j : Int) + 1 ∧ F_word_Month [.s s] = some [.i x, .i 0] ∧ 0 < s.length ∧ s.length ≤ (wsMonth.getD j []).length ∧ (wsMonth.getD j []).take s.length = s ∧ F_word_Month [.s (s.take (s.length - 1))] = some [.i g, .i e] ∧ (e = 0 → g = x) :=
  one_any fx_Month (by decide) (by decide) (by decide) hs hs' hl
theorem wl_Month {j : Nat} (hj : j < 12) : wsMonth.getD j [] ∈ wsMonth ∧ 0 < (wsMonth.getD j []).length ∧ (wsMonth.getD j []).length ≤ 20 := by
  have : wsMonth.getD j [] ∈ wsMonth := by
    have e : wsMonth.getD j [] = wsMonth[j]'hj := by
      rw [List.getD_eq_getElem?_getD, List.getElem?_eq_getElem (show j < wsMonth.length from hj)]; rfl
    rw [e]; exact List.getElem_mem _
  refine ⟨this, ?_, ?_⟩
  · exact List.length_pos_iff.2 ((by decide : ∀ w ∈ wsMonth, w ≠ []) _ this)
  · exact (by decide : ∀ w ∈ wsMonth, w.length ≤ 20) _ this
theorem more_Week {w : List UInt8} (hw : w ∈ wsWeek) {k : Nat} (hk : k ≤ w.length) (c : UInt8) : F_word_Week [.s ((w.take k ++ [c]) ++ List.take (w.length - k) (List.drop k w))] = some [.i 0, .i 8] := by
  have h := more_any fx_Week (by decide) (by decide) (by decide) (by decide) hw hk c
  rw [List.take_of_length_le (Nat.le_refl _)] at h
  rw [List.take_of_length_le (l := List.drop k w) (by simp)]
  exact h
theorem lit_Week {j : Nat} (hj : j < 7) : asS ([(AV.str (.lit ([115, 117, 110, 100, 97, 121] : List UInt8))), (AV.str (.lit ([109, 111, 110, 100, 97, 121] : List UInt8))), (AV.str (.lit ([116, 117, 101, 115, 100, 97, 121] : List UInt8))), (AV.str (.lit ([119, 101, 100, 110, 101, 115, 100, 97, 121] : List UInt8))), (AV.str (.lit ([116, 104, 117, 114, 115, 100, 97, 121] : List UInt8))), (AV.str (.lit ([102, 114, 105, 100, 97, 121] : List UInt8))), (AV.str (.lit ([115, 97, 116, 117, 114, 100, 97, 121] : List UInt8)))])[j]? = some (wsWeek.getD j []) := by
  have h := sc_at (ws := wsWeek) (i := j) hj
  exact h
theorem one_Week {s : List UInt8} (hs : Sm.smallV s = s) (hs' : Sm.smallV (s.take (s.length - 1)) = s.take (s.length - 1)) (hl : s.length ≤ 12) :
    F_word_Week [.s s] = some [.i 0, .i 8] ∨ ∃ (j : Nat) (x g e : Int), j < 7 ∧ x = (j : Int) + 0 ∧ F_word_Week [.s s] = some [.i x, .i 0] ∧ 0 < s.length ∧ s.length ≤ (wsWeek.getD j []).length ∧ (wsWeek.getD j []).take s.length = s ∧ F_word_Week [.s (s.take (s.length - 1))] = some [.i g, .i e] ∧ (e = 0 → g = x) :=
  one_any fx_Week (by decide) (by decide) (by decide) hs hs' hl
theorem wl_Week {j : Nat} (hj : j < 7) : wsWeek.getD j [] ∈ wsWeek ∧ 0 < (wsWeek.getD j []).length ∧ (wsWeek.getD j []).length ≤ 20 := by
  have : wsWeek.getD j [] ∈ wsWeek := by
    have e : wsWeek.getD j [] = wsWeek[j]'hj := by
      rw [List.getD_eq_getElem?_getD, List.getElem?_eq_getElem (show j < wsWeek.length from hj)]; rfl
    rw [e]; exact List.getElem_mem _
  refine ⟨this, ?_, ?_⟩
  · exact List.length_pos_iff.2 ((by decide : ∀ w ∈ wsWeek, w ≠ []) _ this)
  · exact (by decide : ∀ w ∈ wsWeek, w.length ≤ 20) _ this
theorem more_To {w : List UInt8} (hw : w ∈ wsTo) {k : Nat} (hk : k ≤ w.length) (c : UInt8) : F_word_To [.s ((w.take k ++ [c]) ++ List.take (w.length - k) (List.drop k w))] = some [.i 0, .i 8] := by
  have h := more_any fx_To (by decide) (by decide) (by decide) (by decide) hw hk c
  rw [List.take_of_length_le (Nat.le_refl _)] at h
  rw [List.take_of_length_le (l := List.drop k w) (by simp)]
  exact h
theorem lit_To {j : Nat} (hj : j < 2) : asS ([(AV.str (.lit ([111, 110, 108, 121] : List UInt8))), (AV.str (.lit ([109, 97, 120, 105, 109, 117, 109] : List UInt8)))])[j]? = some (wsTo.getD j []) := by
  have h := sc_at (ws := wsTo) (i := j) hj
  exact h
theorem one_To {s : List UInt8} (hs : Sm.smallV s = s) (hs' : Sm.smallV (s.take (s.length - 1)) = s.take (s.length - 1)) (hl : s.length ≤ 12) :
    F_word_To [.s s] = some [.i 0, .i 8] ∨ ∃ (j : Nat) (x g e : Int), j < 2 ∧ x = (j : Int) + 1 ∧ F_word_To [.s s] = some [.i x, .i 0] ∧ 0 < s.length ∧ s.length ≤ (wsTo.getD j []).length ∧ (wsTo.getD j []).take s.length = s ∧ F_word_To [.s (s.take (s.length - 1))] = some [.i g, .i e] ∧ (e = 0 → g = x) :=
  one_any fx_To (by decide) (by decide) (by decide) hs hs' hl
theorem wl_To {j : Nat} (hj : j < 2) : wsTo.getD j [] ∈ wsTo ∧ 0 < (wsTo.getD j []).length ∧ (wsTo.getD j []).length ≤ 20 := by
  have : wsTo.getD j [] ∈ wsTo := by
    have e : wsTo.getD j [] = wsTo[j]'hj := by
      rw [List.getD_eq_getElem?_getD, List.getElem?_eq_getElem (show j < wsTo.length from hj)]; rfl
    rw [e]; exact List.getElem_mem _
  refine ⟨this, ?_, ?_⟩
  · exact List.length_pos_iff.2 ((by decide : ∀ w ∈ wsTo, w ≠ []) _ this)
  · exact (by decide : ∀ w ∈ wsTo, w.length ≤ 20) _ this

theorem wordMore (a b d : Int) (c : UInt8) (ha : 0 ≤ a ∧ a ≤ 255) (hb : 0 ≤ b ∧ b ≤ 255) (hd : 0 ≤ d ∧ d ≤ 255) : F_law08_WordMore [.i a, .i b, .i d, .i ((c.toNat : Nat) : Int)] = some [.b true] := by
  have ea : i64 a = a := i64_in _ (by omega)
  have eb : i64 b = b := i64_in _ (by omega)
  have ed : i64 d = d := i64_in _ (by omega)
  have m4 : Int.tmod a 4 = a % 4 := tmod_nn ha.1
  have hc : Ax.bytesOf [AV.int .u8 (.sym ((c.toNat : Nat) : Int))] = some [c] := by rw [bytesOf_cons, bytesOf_nil]; simp [Ax.I.v]
  have one : ([c] : List UInt8).length = 1 := rfl
  have go : ∀ (w : List UInt8), 0 < w.length → w.length ≤ 20 → ∃ k : Nat, Int.tmod d (i64 (((w.length : Nat) : Int) + 1)) = ((k : Nat) : Int) ∧ k ≤ w.length ∧ (i64 (((w.length : Nat) : Int) + 1) != 0) = true := by
    intro w h1 h2
    have e1 : i64 (((w.length : Nat) : Int) + 1) = ((w.length + 1 : Nat) : Int) := by rw [i64_in _ (by omega)]; omega
    have q1 := Int.emod_nonneg d (show ((w.length + 1 : Nat) : Int) ≠ 0 by omega)
    have q2 := Int.emod_lt_of_pos d (show (0 : Int) < ((w.length + 1 : Nat) : Int) by omega)
    refine ⟨(d % ((w.length + 1 : Nat) : Int)).toNat, by rw [e1, tmod_nn hd.1]; omega, by omega, by rw [e1]; exact bneI_t (by omega)⟩
  obtain ⟨q, hq⟩ : ∃ q : Int, a % 4 = q := ⟨_, rfl⟩
  have hq4 : 0 ≤ q ∧ q < 4 := by omega
  have hq' : q = 0 ∨ q = 1 ∨ q = 2 ∨ q = 3 := by omega
  unfold F_law08_WordMore
  clear hq4
  rcases hq' with h | h | h | h
  · rw [h] at hq
    obtain ⟨j, hj⟩ : ∃ j : Nat, Int.tmod b 4 = ((j : Nat) : Int) := ⟨(b % 4).toNat, by rw [tmod_nn hb.1]; omega⟩
    have hj2 : j < 4 := by rw [tmod_nn hb.1] at hj; omega
    have hl := lit_Line hj2
    obtain ⟨w1, w2, w3⟩ := wl_Line hj2
    generalize wsLine.getD j [] = w at *
    obtain ⟨k, k1, k2, k3⟩ := go w w2 w3
    have hm := more_Line w1 k2 c
    have t1 : (List.take k w).length ≤ 20 := by rw [List.length_take]; omega
    have t2 : (List.take (w.length - k) (List.drop k w)).length ≤ 20 := by rw [List.length_take, List.length_drop]; omega
    have hq0 : Int.tmod a 4 = 0 := by rw [m4, hq]
    clear go w1 m4 hq h
    simp (disch := omega) only [onI_c, onS_c, onB_c, onN_c, onL_c, Option.bind_some, Option.map_some, cond_true, cond_false, ↓onI_c, ↓onS_c, ↓onB_c, ↓onN_c, ↓onL_c, ↓Option.bind_some, ↓cond_true, ↓cond_false, decide_eq_true, decide_eq_false, Bool.not_true, Bool.not_false, Int.toNat_natCast, List.length_append, List.length_cons, List.length_nil, List.drop_zero, Nat.zero_add, Nat.add_zero, decT, decF, bneI_t, bneI_f, ea, eb, ed, hq0, hj, hl, k1, k3, hc, one, hm, wworks_at]
  · rw [h] at hq
    obtain ⟨j, hj⟩ : ∃ j : Nat, Int.tmod b 12 = ((j : Nat) : Int) := ⟨(b % 12).toNat, by rw [tmod_nn hb.1]; omega⟩
    have hj2 : j < 12 := by rw [tmod_nn hb.1] at hj; omega
    have hl := lit_Month hj2
    obtain ⟨w1, w2, w3⟩ := wl_Month hj2
    generalize wsMonth.getD j [] = w at *
    obtain ⟨k, k1, k2, k3⟩ := go w w2 w3
    have hm := more_Month w1 k2 c
    have t1 : (List.take k w).length ≤ 20 := by rw [List.length_take]; omega
    have t2 : (List.take (w.length - k) (List.drop k w)).length ≤ 20 := by rw [List.length_take, List.length_drop]; omega
    have hq0 : Int.tmod a 4 = 1 := by rw [m4, hq]
    clear go w1 m4 hq h
    simp (disch := omega) only [onI_c, onS_c, onB_c, onN_c, onL_c, Option.bind_some, Option.map_some, cond_true, cond_false, ↓onI_c, ↓onS_c, ↓onB_c, ↓onN_c, ↓onL_c, ↓Option.bind_some, ↓cond_true, ↓cond_false, decide_eq_true, decide_eq_false, Bool.not_true, Bool.not_false, Int.toNat_natCast, List.length_append, List.length_cons, List.length_nil, List.drop_zero, Nat.zero_add, Nat.add_zero, decT, decF, bneI_t, bneI_f, ea, eb, ed, hq0, hj, hl, k1, k3, hc, one, hm, wworks_at]
  · rw [h] at hq
    obtain ⟨j, hj⟩ : ∃ j : Nat, Int.tmod b 7 = ((j : Nat) : Int) := ⟨(b % 7).toNat, by rw [tmod_nn hb.1]; omega⟩
    have hj2 : j < 7 := by rw [tmod_nn hb.1] at hj; omega
    have hl := lit_Week hj2
    obtain ⟨w1, w2, w3⟩ := wl_Week hj2
    generalize wsWeek.getD j [] = w at *
    obtain ⟨k, k1, k2, k3⟩ := go w w2 w3
    have hm := more_Week w1 k2 c
    have t1 : (List.take k w).length ≤ 20 := by rw [List.length_take]; omega
    have t2 : (List.take (w.length - k) (List.drop k w)).length ≤ 20 := by rw [List.length_take, List.length_drop]; omega
    have hq0 : Int.tmod a 4 = 2 := by rw [m4, hq]
    clear go w1 m4 hq h
    simp (disch := omega) only [onI_c, onS_c, onB_c, onN_c, onL_c, Option.bind_some, Option.map_some, cond_true, cond_false, ↓onI_c, ↓onS_c, ↓onB_c, ↓onN_c, ↓onL_c, ↓Option.bind_some, ↓cond_true, ↓cond_false, decide_eq_true, decide_eq_false, Bool.not_true, Bool.not_false, Int.toNat_natCast, List.length_append, List.length_cons, List.length_nil, List.drop_zero, Nat.zero_add, Nat.add_zero, decT, decF, bneI_t, bneI_f, ea, eb, ed, hq0, hj, hl, k1, k3, hc, one, hm, wworks_at]
  · rw [h] at hq
    obtain ⟨j, hj⟩ : ∃ j : Nat, Int.tmod b 2 = ((j : Nat) : Int) := ⟨(b % 2).toNat, by rw [tmod_nn hb.1]; omega⟩
    have hj2 : j < 2 := by rw [tmod_nn hb.1] at hj; omega
    have hl := lit_To hj2
    obtain ⟨w1, w2, w3⟩ := wl_To hj2
    generalize wsTo.getD j [] = w at *
    obtain ⟨k, k1, k2, k3⟩ := go w w2 w3
    have hm := more_To w1 k2 c
    have t1 : (List.take k w).length ≤ 20 := by rw [List.length_take]; omega
    have t2 : (List.take (w.length - k) (List.drop k w)).length ≤ 20 := by rw [List.length_take, List.length_drop]; omega
    have hq0 : Int.tmod a 4 = 3 := by rw [m4, hq]
    clear go w1 m4 hq h
    simp (disch := omega) only [onI_c, onS_c, onB_c, onN_c, onL_c, Option.bind_some, Option.map_some, cond_true, cond_false, ↓onI_c, ↓onS_c, ↓onB_c, ↓onN_c, ↓onL_c, ↓Option.bind_some, ↓cond_true, ↓cond_false, decide_eq_true, decide_eq_false, Bool.not_true, Bool.not_false, Int.toNat_natCast, List.length_append, List.length_cons, List.length_nil, List.drop_zero, Nat.zero_add, Nat.add_zero, decT, decF, bneI_t, bneI_f, ea, eb, ed, hq0, hj, hl, k1, k3, hc, one, hm, wworks_at]
theorem lawP_WordMore {dats : List Dat} (h : DatOk tau [.int .u8, .int .u8, .int .u8, .int .u8] dats) : F_law08_WordMore dats = some [.b true] := by
  obtain ⟨a, r, rfl, ha, b, r2, rfl, hb, d, r3, rfl, hd, c, r4, rfl, hc, rfl⟩ := h
  have hc := wf_u8 hc
  have e : c = (((UInt8.ofNat c.toNat).toNat : Nat) : Int) := by rw [UInt8.toNat_ofNat']; omega
  rw [e]
  exact wordMore a b d _ (wf_u8 ha) (wf_u8 hb) (wf_u8 hd)
end Go.Proofs.YtdpjkapaphelhaaDoor
