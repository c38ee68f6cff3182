/-
  MLnk, MPrn, as one text.
-/
import Derived.Test.YtgmmcmfnniaekaaDoorMNstlin
import Derived.Test.YtgmmcmfnniaekaaDoorMLexlin
import Derived.Test.YtgmmcmfnniaekaaDoorAxT
namespace Go.Proofs.YtgmmcmfnniaekaaDoor
open Go.Ax
set_option linter.all false
set_option maxHeartbeats 4000000
set_option maxRecDepth 100000
attribute [local congr] cond_cong bind_cong onI_cong onB_cong onS_cong onN_cong onL_cong
theorem slice_le {τ : Tys} {e n : Nat} {c : List AV} (h : CellOk τ (.slice e) (.seq (.sym n) c)) : n ≤ maxLen := by
  cases h with | slice _ _ _ hn _ => exact hn
def fewV (xs : List (List UInt8)) : Bool := xs.all (fun x => decide (x.length ≤ 200)) && decide (xs.length ≤ 10)
theorem few_run {l : List AV} {xs : List (List UInt8)} (h : strsOf l = some xs) (hl : xs.length ≤ 9223372036854775807) : ∀ (m i : Nat), i + m = xs.length →
    iter F_law12_few_L0 [.n xs.length, .l l, .i ((i : Nat) : Int)] = some [.b ((xs.drop i).all (fun x => decide (x.length ≤ 200)) && decide (xs.length ≤ 10))]
  | 0, i, hi => by
    obtain rfl : i = xs.length := by omega
    refine iter_end ?_
    unfold F_law12_few_L0
    have h1 : ¬ ((xs.length : Nat) : Int) < ((xs.length : Nat) : Int) := by omega
    rw [List.drop_of_length_le (Nat.le_refl _)]
    by_cases h2 : xs.length ≤ 10
    · have h3 : ((xs.length : Nat) : Int) ≤ 10 := by omega
      simp only [h1, h2, h3, onI_c, onS_c, onB_c, onN_c, onL_c, Option.bind_some, Option.map_some, cond_true, cond_false, ↓onI_c, ↓onS_c, ↓onB_c, ↓onN_c, ↓onL_c, ↓Option.bind_some, ↓cond_true, ↓cond_false, decide_eq_true, decide_eq_false, Bool.not_true, Bool.not_false, Int.toNat_natCast, List.length_append, List.length_cons, List.length_nil, List.drop_zero, Nat.zero_add, Nat.add_zero, decT, decF, bneI_t, bneI_f, decide_true, decide_false, List.all_nil, Bool.true_and]
    · have h3 : ¬ ((xs.length : Nat) : Int) ≤ 10 := by omega
      simp only [h1, h2, h3, onI_c, onS_c, onB_c, onN_c, onL_c, Option.bind_some, Option.map_some, cond_true, cond_false, ↓onI_c, ↓onS_c, ↓onB_c, ↓onN_c, ↓onL_c, ↓Option.bind_some, ↓cond_true, ↓cond_false, decide_eq_true, decide_eq_false, Bool.not_true, Bool.not_false, Int.toNat_natCast, List.length_append, List.length_cons, List.length_nil, List.drop_zero, Nat.zero_add, Nat.add_zero, decT, decF, bneI_t, bneI_f, decide_true, decide_false, List.all_nil, Bool.and_false]
  | m + 1, i, hi => by
    have hlt : i < xs.length := by omega
    have hd : xs.drop i = xs.getD i [] :: xs.drop (i + 1) := by
      rw [List.drop_eq_getElem_cons hlt]; simp [List.getD, hlt]
    have hg := strsOf_get h hlt
    have e4 : i64 ((i : Int) + 1) = ((i + 1 : Nat) : Int) := by rw [i64_in _ (by omega)]; omega
    have h1 : ((i : Nat) : Int) < ((xs.length : Nat) : Int) := by omega
    have h0 : (0 : Int) ≤ ((i : Nat) : Int) := by omega
    rw [hd, List.all_cons]
    by_cases hb : (xs.getD i []).length ≤ 200
    · have hb2 : ¬ (200 : Int) < (((xs.getD i []).length : Nat) : Int) := by omega
      rw [decide_eq_true hb, Bool.true_and, ← few_run h hl m (i + 1) (by omega)]
      refine iter_next ?_
      generalize xs.getD i [] = x at *
      generalize xs.length = k at *
      clear h hd
      unfold F_law12_few_L0
      simp only [h1, h0, and_self, hg, e4, hb2, Int.toNat_natCast, decide_true, decide_false, onI_c, onS_c, onB_c, onN_c, onL_c, Option.bind_some, cond_true, cond_false]
    · have hb2 : (200 : Int) < (((xs.getD i []).length : Nat) : Int) := by omega
      rw [decide_eq_false hb]
      refine iter_end ?_
      generalize xs.getD i [] = x at *
      generalize xs.length = k at *
      clear h hd
      unfold F_law12_few_L0
      simp only [h1, h0, and_self, hg, e4, hb2, Int.toNat_natCast, decide_true, decide_false, onI_c, onS_c, onB_c, onN_c, onL_c, Option.bind_some, cond_true, cond_false, Option.map_some, Bool.false_and]
theorem few_at {l : List AV} {xs : List (List UInt8)} (h : strsOf l = some xs) (hl : xs.length ≤ 9223372036854775807) : F_law12_few [.n xs.length, .l l] = some [.b (fewV xs)] := by
  unfold F_law12_few
  rw [onN_c, onL_c]
  exact few_run h hl xs.length 0 (Nat.zero_add _)
theorem few_mem {xs : List (List UInt8)} (h : fewV xs = true) : (∀ x ∈ xs, x.length ≤ 200) ∧ xs.length ≤ 10 := by
  unfold fewV at h
  rw [Bool.and_eq_true, List.all_eq_true, decide_eq_true_eq] at h
  exact ⟨fun x hx => of_decide_eq_true (h.1 x hx), h.2⟩
/-! Links. -/
def linkV (xs : List (List UInt8)) : List UInt8 × List UInt8 × Int := match xs with
  | [a, b] => if (Zo.zoneV a && Zo.zoneV b) = true then (a, b, 0) else ([], [], 9)
  | _ => ([], [], 5)
def shiftV (xs : List (List UInt8)) : List UInt8 × Int := match xs with
  | [a] => if setV a = true then (a, 0) else ([], 9)
  | _ => ([], 5)
theorem link_other {xs : List (List UInt8)} (h : xs.length ≠ 2) : linkV xs = ([], [], 5) := by
  match xs, h with
  | [], _ => rfl
  | [_], _ => rfl
  | [_, _], h => exact absurd rfl h
  | _ :: _ :: _ :: _, _ => rfl
theorem shift_other {xs : List (List UInt8)} (h : xs.length ≠ 1) : shiftV xs = ([], 5) := by
  match xs, h with
  | [], _ => rfl
  | [_], h => exact absurd rfl h
  | _ :: _ :: _, _ => rfl
theorem two_of {xs : List (List UInt8)} (h : xs.length = 2) : ∃ a b, xs = [a, b] := by
  match xs, h with
  | [a, b], _ => exact ⟨a, b, rfl⟩
theorem one_of {xs : List (List UInt8)} (h : xs.length = 1) : ∃ a, xs = [a] := by
  match xs, h with
  | [a], _ => exact ⟨a, rfl⟩
theorem link_at {l : List AV} {xs : List (List UInt8)} (h : strsOf l = some xs) (hb : ∀ x ∈ xs, x.length < 4611686018427387904) : F_linkline_Link [.n xs.length, .l l] = some [.s (linkV xs).1, .s (linkV xs).2.1, .i (linkV xs).2.2] := by
  unfold F_linkline_Link
  rw [onN_c, onL_c]
  by_cases hn : xs.length = 2
  · obtain ⟨a, b, rfl⟩ := two_of hn
    have ga := strsOf_get h (i := 0) (by simp)
    have gb := strsOf_get h (i := 1) (by simp)
    change asS l[0]? = some a at ga
    change asS l[1]? = some b at gb
    have na := nameZone_at (s := a) (hb a (by simp))
    have nb := nameZone_at (s := b) (hb b (by simp))
    have hd : (!decide ((([a, b].length : Nat) : Int) = 2)) = false := rfl
    rw [hd, cond_false]
    change iter (F_linkline_Link_L0 2 l) [.n 2, .l l, .i 2, .i 0, .s [], .s []] = _
    have e1 : i64 ((0 : Int) + 1) = 1 := by decide
    have e2 : i64 ((1 : Int) + 1) = 2 := by decide
    have t0 : ((0 : Int)).toNat = 0 := rfl
    have t1 : ((1 : Int)).toNat = 1 := rfl
    have d1 : decide ((0 : Int) < 2) = true := by decide
    have d2 : decide ((0 : Int) ≤ 0 ∧ (0 : Int) < ((2 : Nat) : Int)) = true := by decide
    have d3 : decide ((1 : Int) < 2) = true := by decide
    have d4 : decide ((0 : Int) ≤ 1 ∧ (1 : Int) < ((2 : Nat) : Int)) = true := by decide
    have d5 : decide ((2 : Int) < 2) = false := by decide
    have d6 : decide ((0 : Int) ≤ 0) = true := by decide
    have d7 : decide ((0 : Int) ≤ 1) = true := by decide
    cases ha : Zo.zoneV a with
    | false =>
      rw [ha] at na
      rw [show linkV [a, b] = ([], [], 9) by simp [linkV, ha]]
      refine iter_end ?_
      unfold F_linkline_Link_L0
      simp only [onN_c, onL_c, onI_c, onS_c, onB_c, d1, d2, d6, t0, ga, na, Option.bind_some, cond_true, cond_false, Bool.not_false, Option.map_some]
    | true =>
      rw [ha] at na
      have s1 : F_linkline_Link_L0 2 l [.n 2, .l l, .i 2, .i 0, .s [], .s []] = some (.inl [.n 2, .l l, .i 2, .i 1, .s [], .s []]) := by
        unfold F_linkline_Link_L0
        simp only [onN_c, onL_c, onI_c, onS_c, onB_c, d1, d2, d6, t0, ga, na, e1, Option.bind_some, cond_true, cond_false, Bool.not_true, Option.map_some]
      rw [iter_next s1]
      cases hb' : Zo.zoneV b with
      | false =>
        rw [hb'] at nb
        rw [show linkV [a, b] = ([], [], 9) by simp [linkV, ha, hb']]
        refine iter_end ?_
        unfold F_linkline_Link_L0
        simp only [onN_c, onL_c, onI_c, onS_c, onB_c, d3, d4, d7, t1, gb, nb, Option.bind_some, cond_true, cond_false, Bool.not_false, Option.map_some]
      | true =>
        rw [hb'] at nb
        rw [show linkV [a, b] = (a, b, 0) by simp [linkV, ha, hb']]
        have s2 : F_linkline_Link_L0 2 l [.n 2, .l l, .i 2, .i 1, .s [], .s []] = some (.inl [.n 2, .l l, .i 2, .i 2, .s [], .s []]) := by
          unfold F_linkline_Link_L0
          simp only [onN_c, onL_c, onI_c, onS_c, onB_c, d3, d4, t1, gb, nb, e2, Option.bind_some, cond_true, cond_false, Bool.not_true, Option.map_some]
        rw [iter_next s2]
        refine iter_end ?_
        unfold F_linkline_Link_L0
        simp only [onN_c, onL_c, onI_c, onS_c, onB_c, d5, d2, d4, ga, gb, Option.bind_some, cond_true, cond_false, Option.map_some]
  · have hd : (!decide (((xs.length : Nat) : Int) = 2)) = true := by rw [decide_eq_false (by omega)]; rfl
    rw [hd, cond_true, link_other hn]
theorem shift_at {l : List AV} {xs : List (List UInt8)} (h : strsOf l = some xs) : F_linkline_Shift [.n xs.length, .l l] = some [.s (shiftV xs).1, .i (shiftV xs).2] := by
  unfold F_linkline_Shift
  rw [onN_c, onL_c]
  by_cases hn : xs.length = 1
  · obtain ⟨a, rfl⟩ := one_of hn
    have ga := strsOf_get h (i := 0) (by simp)
    change asS l[0]? = some a at ga
    have na := set_at (s := a)
    have hd : (!decide ((([a].length : Nat) : Int) = 1)) = false := rfl
    rw [hd, cond_false]
    change iter (F_linkline_Shift_L0 1 l) [.n 1, .l l, .i 1, .i 0] = _
    have e1 : i64 ((0 : Int) + 1) = 1 := by decide
    have t0 : ((0 : Int)).toNat = 0 := rfl
    have d1 : decide ((0 : Int) < 1) = true := by decide
    have d2 : decide ((0 : Int) ≤ 0 ∧ (0 : Int) < ((1 : Nat) : Int)) = true := by decide
    have d5 : decide ((1 : Int) < 1) = false := by decide
    have d6 : decide ((0 : Int) ≤ 0) = true := by decide
    cases ha : setV a with
    | false =>
      rw [ha] at na
      rw [show shiftV [a] = ([], 9) by simp [shiftV, ha]]
      refine iter_end ?_
      unfold F_linkline_Shift_L0
      simp only [onN_c, onL_c, onI_c, onS_c, onB_c, d1, d2, d6, t0, ga, na, Option.bind_some, cond_true, cond_false, Bool.not_false, Option.map_some]
    | true =>
      rw [ha] at na
      rw [show shiftV [a] = (a, 0) by simp [shiftV, ha]]
      have s1 : F_linkline_Shift_L0 1 l [.n 1, .l l, .i 1, .i 0] = some (.inl [.n 1, .l l, .i 1, .i 1]) := by
        unfold F_linkline_Shift_L0
        simp only [onN_c, onL_c, onI_c, onS_c, onB_c, d1, d2, d6, t0, ga, na, e1, Option.bind_some, cond_true, cond_false, Bool.not_true, Option.map_some]
      rw [iter_next s1]
      refine iter_end ?_
      unfold F_linkline_Shift_L0
      simp only [onN_c, onL_c, onI_c, onS_c, onB_c, d5, d2, ga, Option.bind_some, cond_true, cond_false, Option.map_some]
  · have hd : (!decide (((xs.length : Nat) : Int) = 1)) = true := by rw [decide_eq_false (by omega)]; rfl
    rw [hd, cond_true, shift_other hn]
theorem rlink_at {l : List AV} {xs : List (List UInt8)} (h : strsOf l = some xs) (hb : ∀ x ∈ xs, x.length < 4611686018427387904) : F_ref12_Link [.n xs.length, .l l] = some [.s (linkV xs).1, .s (linkV xs).2.1, .i (linkV xs).2.2] := by
  unfold F_ref12_Link
  rw [onN_c, onL_c]
  by_cases hn : xs.length = 2
  · obtain ⟨a, b, rfl⟩ := two_of hn
    have ga := strsOf_get h (i := 0) (by simp)
    have gb := strsOf_get h (i := 1) (by simp)
    change asS l[0]? = some a at ga
    change asS l[1]? = some b at gb
    have na := rzone_at (s := a) (hb a (by simp))
    have nb := rzone_at (s := b) (hb b (by simp))
    have hd : (!decide ((([a, b].length : Nat) : Int) = 2)) = false := rfl
    have d2 : decide ((0 : Int) ≤ 0 ∧ (0 : Int) < (([a, b].length : Nat) : Int)) = true := decide_eq_true ⟨by omega, by simp⟩
    have d4 : decide ((0 : Int) ≤ 1 ∧ (1 : Int) < (([a, b].length : Nat) : Int)) = true := decide_eq_true ⟨by omega, by simp⟩
    rw [hd, cond_false]
    cases ha : Zo.zoneV a <;> cases hb' : Zo.zoneV b <;> rw [ha] at na <;> rw [hb'] at nb <;>
      simp only [d2, d4, ga, gb, na, nb, onB_c, Option.bind_some, cond_true, cond_false, Bool.not_true, Bool.not_false] <;> simp [linkV, ha, hb']
  · have hd : (!decide (((xs.length : Nat) : Int) = 2)) = true := by rw [decide_eq_false (by omega)]; rfl
    rw [hd, cond_true, link_other hn]
theorem rshift_at {l : List AV} {xs : List (List UInt8)} (h : strsOf l = some xs) : F_ref12_Shift [.n xs.length, .l l] = some [.s (shiftV xs).1, .i (shiftV xs).2] := by
  unfold F_ref12_Shift
  rw [onN_c, onL_c]
  by_cases hn : xs.length = 1
  · obtain ⟨a, rfl⟩ := one_of hn
    have ga := strsOf_get h (i := 0) (by simp)
    change asS l[0]? = some a at ga
    have na := rset_at (s := a)
    have hd : (!decide ((([a].length : Nat) : Int) = 1)) = false := rfl
    have d2 : decide ((0 : Int) ≤ 0 ∧ (0 : Int) < (([a].length : Nat) : Int)) = true := decide_eq_true ⟨by omega, by simp⟩
    rw [hd, cond_false]
    cases ha : setV a <;> rw [ha] at na <;>
      simp only [d2, ga, na, onB_c, Option.bind_some, cond_true, cond_false, Bool.not_true, Bool.not_false] <;> simp [shiftV, ha]
  · have hd : (!decide (((xs.length : Nat) : Int) = 1)) = true := by rw [decide_eq_false (by omega)]; rfl
    rw [hd, cond_true, shift_other hn]
theorem lawP_LinklineReads {dats : List Dat} (h : DatOk tau [.slice 9] dats) : F_law12_LinklineReads dats = some [.b true] := by
  obtain ⟨n, c, r, rfl, hc, rfl⟩ := h
  have hle := slice_le hc
  obtain ⟨xs, hx, rfl⟩ := cells_strings (by kernel_rfl) hc
  have hf := few_at hx (by unfold maxLen at hle; omega)
  have hw : F_law12_works [] = some [.b true] := rfl
  unfold F_law12_LinklineReads
  cases hfe : fewV xs with
  | false => rw [hfe] at hf; simp only [onN_c, onL_c, hf, hw, onB_c, Option.bind_some, cond_true, Bool.not_false]
  | true =>
    rw [hfe] at hf
    obtain ⟨hb, _⟩ := few_mem hfe
    have hb2 : ∀ x ∈ xs, x.length < 4611686018427387904 := fun x hx => by have := hb x hx; omega
    have h1 := link_at hx hb2
    have h2 := rlink_at hx hb2
    have h3 := shift_at hx
    have h4 := rshift_at hx
    simp only [onN_c, onL_c, hf, hw, h1, h2, h3, h4, onB_c, onS_c, onI_c, Option.bind_some, cond_true, cond_false, Bool.not_true, beq_self_eq_true, decide_true, Bool.and_self]
theorem link_err (xs : List (List UInt8)) : ((linkV xs).2.2 = 5 ↔ xs.length ≠ 2) ∧ ((linkV xs).2.2 = 0 ∨ ((linkV xs).1 = [] ∧ (linkV xs).2.1 = [])) := by
  by_cases hn : xs.length = 2
  · obtain ⟨a, b, rfl⟩ := two_of hn
    unfold linkV
    cases h : (Zo.zoneV a && Zo.zoneV b) <;> simp [h]
  · rw [link_other hn]; simp [hn]
theorem shift_err (xs : List (List UInt8)) : ((shiftV xs).2 = 5 ↔ xs.length ≠ 1) ∧ ((shiftV xs).2 = 0 ∨ (shiftV xs).1 = []) := by
  by_cases hn : xs.length = 1
  · obtain ⟨a, rfl⟩ := one_of hn
    unfold shiftV
    cases h : setV a <;> simp [h]
  · rw [shift_other hn]; simp [hn]
theorem lawP_LinklineNumbers {dats : List Dat} (h : DatOk tau [.slice 9] dats) : F_law12_LinklineNumbers dats = some [.b true] := by
  obtain ⟨n, c, r, rfl, hc, rfl⟩ := h
  have hle := slice_le hc
  obtain ⟨xs, hx, rfl⟩ := cells_strings (by kernel_rfl) hc
  have hf := few_at hx (by unfold maxLen at hle; omega)
  have hw : F_law12_works [] = some [.b true] := rfl
  unfold F_law12_LinklineNumbers
  cases hfe : fewV xs with
  | false => rw [hfe] at hf; simp only [onN_c, onL_c, hf, hw, onB_c, Option.bind_some, cond_true, Bool.not_false]
  | true =>
    rw [hfe] at hf
    obtain ⟨hb, _⟩ := few_mem hfe
    have hb2 : ∀ x ∈ xs, x.length < 4611686018427387904 := fun x hx => by have := hb x hx; omega
    have h1 := link_at hx hb2
    have h3 := shift_at hx
    obtain ⟨l1, l2⟩ := link_err xs
    obtain ⟨s1, s2⟩ := shift_err xs
    have n2 : (decide (((xs.length : Nat) : Int) = 2)) = decide (xs.length = 2) := by by_cases h : xs.length = 2 <;> simp [h] <;> omega
    have n1 : (decide (((xs.length : Nat) : Int) = 1)) = decide (xs.length = 1) := by by_cases h : xs.length = 1 <;> simp [h] <;> omega
    have a1 : decide ((linkV xs).2.2 = 5) = !decide (xs.length = 2) := by by_cases h : xs.length = 2 <;> simp [h, l1]
    have a2 : decide ((shiftV xs).2 = 5) = !decide (xs.length = 1) := by by_cases h : xs.length = 1 <;> simp [h, s1]
    simp only [onN_c, onL_c, hf, hw, h1, h3, onB_c, onS_c, onI_c, Option.bind_some, cond_true, cond_false, Bool.not_true, n1, n2, a1, a2]
    generalize linkV xs = L at *
    generalize shiftV xs = S at *
    obtain ⟨L1, L2, L3⟩ := L
    obtain ⟨S1, S2⟩ := S
    clear l1 s1 a1 a2 h1 h3
    have hz : (decide (xs.length = 2)) = true ∨ (decide (xs.length = 2)) = false := by cases decide (xs.length = 2) <;> simp
    rcases l2 with q | ⟨q, q'⟩ <;> rcases s2 with p | p <;> simp only at q p
    · subst q; subst p
      cases decide (xs.length = 2) <;> cases decide (xs.length = 1) <;> rfl
    · subst q; subst p
      cases decide (xs.length = 2) <;> cases decide (xs.length = 1) <;> cases decide (S2 = 0) <;> rfl
    · simp only at q'
      subst q; subst q'; subst p
      cases decide (xs.length = 2) <;> cases decide (xs.length = 1) <;> cases decide (L3 = 0) <;> rfl
    · simp only at q'
      subst q; subst q'; subst p
      cases decide (xs.length = 2) <;> cases decide (xs.length = 1) <;> cases decide (L3 = 0) <;> cases decide (S2 = 0) <;> rfl
end Go.Proofs.YtgmmcmfnniaekaaDoor

namespace Go.Proofs.YtgmmcmfnniaekaaDoor
open Go.Ax
set_option linter.all false
set_option maxHeartbeats 4000000
set_option maxRecDepth 100000
attribute [local congr] cond_cong bind_cong onI_cong onB_cong onS_cong onN_cong onL_cong
/-! Bytes of names can stand in a line as they are. -/
theorem okb_line (b : UInt8) (h : Za.okb b = true ∨ b = 47) : (32 ≤ b.toNat ∧ b.toNat ≤ 126 ∧ b.toNat ≠ 34) ∧ (b.toNat ≠ 32 ∧ b.toNat ≠ 35) := by
  have := Za.byte_all (p := fun b => !(Za.okb b || decide (b = 47)) || (decide (32 ≤ b.toNat ∧ b.toNat ≤ 126 ∧ b.toNat ≠ 34) && decide (b.toNat ≠ 32 ∧ b.toNat ≠ 35))) (by decide +kernel) b
  have hb : (Za.okb b || decide (b = 47)) = true := by
    rcases h with h | h
    · rw [h]; rfl
    · simp [h]
  rw [hb] at this
  simp only [Bool.not_true, Bool.false_or, Bool.and_eq_true, decide_eq_true_eq] at this
  exact this
theorem set_line (b : UInt8) (h : (letB b || joinB b) = true) : Za.okb b = true := by
  have := Za.byte_all (p := fun b => !(letB b || joinB b) || Za.okb b) (by decide +kernel) b
  rw [h] at this; simpa using this
theorem parts_mem {c : UInt8} : ∀ (s : List UInt8) (x : UInt8), x ∈ s → x = c ∨ ∃ p ∈ Sp.parts c s, x ∈ p
  | [], x, hx => by simp at hx
  | y :: s, x, hx => by
    by_cases hy : y = c
    · rcases List.mem_cons.1 hx with e | h
      · subst e; exact .inl hy
      · rcases parts_mem s x h with h | ⟨p, hp, hxp⟩
        · exact .inl h
        · refine .inr ⟨p, ?_, hxp⟩
          unfold Sp.parts; rw [if_pos hy]; exact List.mem_cons_of_mem _ hp
    · have hne := Sp.parts_ne c s
      cases hq : Sp.parts c s with
      | nil => exact absurd hq hne
      | cons q qs =>
        have hp : Sp.parts c (y :: s) = (y :: q) :: qs := by
          conv => lhs; unfold Sp.parts
          rw [if_neg hy, hq]
        rw [hp]
        rcases List.mem_cons.1 hx with e | h
        · subst e; exact .inr ⟨_, List.mem_cons_self .., List.mem_cons_self ..⟩
        · rcases parts_mem s x h with h | ⟨p, hp, hxp⟩
          · exact .inl h
          · rw [hq] at hp
            rcases List.mem_cons.1 hp with e | h2
            · subst e; exact .inr ⟨_, List.mem_cons_self .., List.mem_cons_of_mem _ hxp⟩
            · exact .inr ⟨p, List.mem_cons_of_mem _ h2, hxp⟩
theorem part_bytes {p : List UInt8} (h : Za.partOk p = true) : ∀ x ∈ p, Za.okb x = true := by
  cases p with
  | nil => intro x hx; simp at hx
  | cons y l =>
    simp only [Za.partOk, Za.oka, Bool.and_eq_true] at h
    intro x hx
    rcases List.mem_cons.1 hx with e | hx
    · subst e; exact h.1.1.1.1
    · exact List.all_eq_true.1 h.1.2 x hx
theorem zone_facts {s : List UInt8} (h : Zo.zoneV s = true) : wrB s = true ∧ bareB s = true ∧ s.length ≤ 60 := by
  unfold Zo.zoneV at h
  rw [Bool.and_eq_true, decide_eq_true_eq] at h
  have hb : ∀ x ∈ s, Za.okb x = true ∨ x = 47 := by
    intro x hx
    rcases parts_mem s x hx with e | ⟨p, hp, hxp⟩
    · exact .inr e
    · exact .inl (part_bytes (List.all_eq_true.1 h.2 p hp) x hxp)
  have hne : s ≠ [] := fun e => by rw [e] at h; simp [Sp.parts, Za.partOk] at h
  refine ⟨?_, ?_, h.1⟩
  · unfold wrB; rw [List.all_eq_true]; intro x hx; exact decide_eq_true (okb_line x (hb x hx)).1
  · unfold bareB
    have : (s == []) = false := by cases s with | nil => exact absurd rfl hne | cons => rfl
    rw [this, Bool.not_false, Bool.true_and, List.all_eq_true]; intro x hx; exact decide_eq_true (okb_line x (hb x hx)).2
theorem set_facts {s : List UInt8} (h : setV s = true) : wrB s = true ∧ bareB s = true ∧ s.length ≤ 30 := by
  cases s with
  | nil => simp [setV] at h
  | cons y l =>
    simp only [setV, Bool.and_eq_true, decide_eq_true_eq] at h
    have hb : ∀ x ∈ y :: l, Za.okb x = true ∨ x = 47 := by
      intro x hx
      rcases List.mem_cons.1 hx with e | hx
      · subst e; exact .inl (set_line _ (by rw [h.1.1]; rfl))
      · exact .inl (set_line _ (List.all_eq_true.1 h.1.2 x hx))
    refine ⟨?_, ?_, by simp only [List.length_cons]; omega⟩
    · unfold wrB; rw [List.all_eq_true]; intro x hx; exact decide_eq_true (okb_line x (hb x hx)).1
    · unfold bareB
      rw [show ((y :: l) == ([] : List UInt8)) = false from rfl, Bool.not_false, Bool.true_and, List.all_eq_true]; intro x hx; exact decide_eq_true (okb_line x (hb x hx)).2
def printV (a b : List UInt8) : List UInt8 × Int := if (Zo.zoneV a && Zo.zoneV b) = true then ((([76, 105, 110, 107, 32] ++ a) ++ [32]) ++ b, 0) else ([], 2)
def printSV (a : List UInt8) : List UInt8 × Int := if setV a = true then ([83, 104, 105, 102, 116, 32] ++ a, 0) else ([], 2)
theorem item_of {s : List UInt8} (h : bareB s = true) : item s = s := by unfold item; rw [if_pos h]
theorem print_at {a b : List UInt8} (ha : a.length < 4611686018427387904) (hb : b.length < 4611686018427387904) : F_linkline_Print [.s a, .s b] = some [.s (printV a b).1, .i (printV a b).2] := by
  have na := nameZone_at ha
  have nb := nameZone_at hb
  unfold F_linkline_Print
  rw [onS_c, onS_c]
  cases h1 : Zo.zoneV a with
  | false => rw [h1] at na; rw [show printV a b = ([], 2) by simp [printV, h1], na]; rfl
  | true =>
    rw [h1] at na
    rw [na, Option.bind_some, onB_c, Bool.not_true, cond_false]
    cases h2 : Zo.zoneV b with
    | false => rw [h2] at nb; rw [show printV a b = ([], 2) by simp [printV, h1, h2], nb]; rfl
    | true =>
      rw [h2] at nb
      rw [nb, Option.bind_some, onB_c, Bool.not_true, cond_false]
      obtain ⟨a1, a2, a3⟩ := zone_facts h1
      obtain ⟨b1, b2, b3⟩ := zone_facts h2
      have hj : joinV [[76, 105, 110, 107], a, b] = ((([76, 105, 110, 107, 32] ++ a) ++ [32]) ++ b, 0) := by
        have e1 : jn true [[76, 105, 110, 107], a, b] = (([76, 105, 110, 107, 32] ++ a) ++ [32]) ++ b := by
          simp only [jn, item_of a2, item_of b2]
          rw [show item [76, 105, 110, 107] = [76, 105, 110, 107] by decide +kernel]
          simp
        unfold joinV
        rw [e1, if_pos (by simp [a1, b1]; decide +kernel), if_neg (by simp; omega)]
      have hs : strsOf [AV.str (.lit [76, 105, 110, 107]), AV.str (.sym a), AV.str (.sym b)] = some [[76, 105, 110, 107], a, b] := rfl
      have hJ := join_at hs (by simp) (by intro x hx; simp at hx; rcases hx with e | e | e <;> subst e <;> first | omega | decide) (n := 3) rfl
      rw [hj] at hJ
      rw [show printV a b = ((([76, 105, 110, 107, 32] ++ a) ++ [32]) ++ b, 0) by simp [printV, h1, h2]]
      change Option.bind (F_lexeme_Join _) _ = _
      rw [hJ]; rfl
theorem printS_at {a : List UInt8} : F_linkline_PrintShift [.s a] = some [.s (printSV a).1, .i (printSV a).2] := by
  have na := set_at (s := a)
  unfold F_linkline_PrintShift
  rw [onS_c]
  cases h1 : setV a with
  | false => rw [h1] at na; rw [show printSV a = ([], 2) by simp [printSV, h1], na]; rfl
  | true =>
    rw [h1] at na
    rw [na, Option.bind_some, onB_c, Bool.not_true, cond_false]
    obtain ⟨a1, a2, a3⟩ := set_facts h1
    have hj : joinV [[83, 104, 105, 102, 116], a] = ([83, 104, 105, 102, 116, 32] ++ a, 0) := by
      have e1 : jn true [[83, 104, 105, 102, 116], a] = [83, 104, 105, 102, 116, 32] ++ a := by
        simp only [jn, item_of a2]
        rw [show item [83, 104, 105, 102, 116] = [83, 104, 105, 102, 116] by decide +kernel]
        simp
      unfold joinV
      rw [e1, if_pos (by simp [a1]; decide +kernel), if_neg (by simp; omega)]
    have hs : strsOf [AV.str (.lit [83, 104, 105, 102, 116]), AV.str (.sym a)] = some [[83, 104, 105, 102, 116], a] := rfl
    have hJ := join_at hs (by simp) (by intro x hx; simp at hx; rcases hx with e | e <;> subst e <;> first | omega | decide) (n := 2) rfl
    rw [hj] at hJ
    rw [show printSV a = ([83, 104, 105, 102, 116, 32] ++ a, 0) by simp [printSV, h1]]
    change Option.bind (F_lexeme_Join _) _ = _
    rw [hJ]; rfl
theorem rprint_at {a b : List UInt8} (ha : a.length ≤ 1000) (hb : b.length ≤ 1000) : F_ref12_Print [.s a, .s b] = some [.s (printV a b).1, .i (printV a b).2] := by
  have na := rzone_at (s := a) (by omega)
  have nb := rzone_at (s := b) (by omega)
  unfold F_ref12_Print
  have d1 : decide (5 + a.length ≤ 9223372036854775807) = true := decide_eq_true (by omega)
  have d2 : decide ((([76, 105, 110, 107, 32] : List UInt8) ++ a).length + 1 ≤ 9223372036854775807) = true := decide_eq_true (by simp; omega)
  have d3 : decide (((([76, 105, 110, 107, 32] : List UInt8) ++ a) ++ ([32] : List UInt8)).length + b.length ≤ 9223372036854775807) = true := decide_eq_true (by simp; omega)
  cases h1 : Zo.zoneV a <;> cases h2 : Zo.zoneV b <;> rw [h1] at na <;> rw [h2] at nb <;>
    simp only [onS_c, na, nb, onB_c, d1, d2, d3, Option.bind_some, cond_true, cond_false, Bool.not_true, Bool.not_false] <;> simp [printV, h1, h2]
theorem rprintS_at {a : List UInt8} (ha : a.length < 4611686018427387904) : F_ref12_PrintShift [.s a] = some [.s (printSV a).1, .i (printSV a).2] := by
  have na := rset_at (s := a)
  unfold F_ref12_PrintShift
  have d1 : decide (6 + a.length ≤ 9223372036854775807) = true := decide_eq_true (by omega)
  cases h1 : setV a <;> rw [h1] at na <;>
    simp only [onS_c, na, onB_c, d1, Option.bind_some, cond_true, cond_false, Bool.not_true, Bool.not_false] <;> simp [printSV, h1]
theorem lawP_LinklinePrints {dats : List Dat} (h : DatOk tau [.string, .string, .string] dats) : F_law12_LinklinePrints dats = some [.b true] := by
  obtain ⟨a, r, rfl, ha, b, r2, rfl, hb, c, r3, rfl, hc, rfl⟩ := h
  have hs : strsOf [AV.str (.sym a), AV.str (.sym b), AV.str (.sym c)] = some [a, b, c] := rfl
  have hf := few_at hs (by simp)
  have hw : F_law12_works [] = some [.b true] := rfl
  have d3 : decide (3 ≤ ([(AV.str (.sym a)), (AV.str (.sym b)), (AV.str (.sym c))]).length) = true := rfl
  change F_law12_few [.n 3, .l _] = _ at hf
  unfold F_law12_LinklinePrints
  cases hfe : fewV [a, b, c] with
  | false => rw [hfe] at hf; simp only [onN_c, onL_c, onS_c, d3, hf, hw, onB_c, Option.bind_some, cond_true, Bool.not_false]
  | true =>
    rw [hfe] at hf
    obtain ⟨hm, _⟩ := few_mem hfe
    have la := hm a (by simp)
    have lb := hm b (by simp)
    have lc := hm c (by simp)
    have h1 := print_at (a := a) (b := b) (by omega) (by omega)
    have h2 := rprint_at (a := a) (b := b) (by omega) (by omega)
    have h3 := printS_at (a := c)
    have h4 := rprintS_at (a := c) (by omega)
    simp only [onN_c, onL_c, d3, hf, hw, h1, h2, h3, h4, onB_c, onS_c, onI_c, Option.bind_some, cond_true, cond_false, Bool.not_true, beq_self_eq_true, decide_true, Bool.and_self]
end Go.Proofs.YtgmmcmfnniaekaaDoor
