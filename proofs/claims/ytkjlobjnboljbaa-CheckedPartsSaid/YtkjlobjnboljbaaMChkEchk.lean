/-
  Checked numbers: sums of lists.
-/
import Derived.Test.YtkjlobjnboljbaaMChkBchk
namespace Go.Proofs.Ytkjlobjnboljbaa
open Go.Ax Go.Lib
set_option linter.all false
set_option maxHeartbeats 8000000
set_option maxRecDepth 100000
attribute [local congr] cond_cong bind_cong onI_cong onB_cong onS_cong onN_cong onL_cong

def ic1 (z : Int) : AV := .int .i64 (.sym z)
def ic (zs : List Int) : List AV := zs.map ic1
theorem ic_len (zs : List Int) : (ic zs).length = zs.length := List.length_map _
theorem ic_at {zs : List Int} {i : Nat} (h : i < zs.length) : asI .i64 (ic zs)[i]? = some (zs[i]?.getD 0) := by
  unfold ic
  rw [List.getElem?_map, List.getElem?_eq_getElem h]; rfl
theorem ic_ints : ∀ zs : List Int, intsOf (ic zs) = some zs
  | [] => rfl
  | z :: zs => by
    show (intsOf (ic zs)).map (z :: ·) = _
    rw [ic_ints zs]; rfl
theorem ic_closed : ∀ zs : List Int, (ic zs).all (closedN 20) = true
  | [] => rfl
  | z :: zs => by
    show ((ic zs).all (closedN 20)) = true
    exact ic_closed zs
theorem ic_take (zs : List Int) (k : Nat) : (ic zs).take k = ic (zs.take k) := by unfold ic; rw [List.map_take]
theorem cells_ic {τ : Tys} {e n : Nat} {c : List AV} (ht : tks τ 12 e = some [.int .i64]) (h : CellOk τ (.slice e) (.seq (.sym n) c)) : ∃ zs, c = ic zs ∧ n = zs.length ∧ intsIn zs := by
  cases h with
  | slice he hp hl hn hh =>
    rw [ht] at he
    cases he
    have key : ∀ (c : List AV), (∀ (i : Nat) (x : AV), c[i]? = some x → CellOk τ (.int .i64) x) → ∃ zs, c = ic zs ∧ intsIn zs := by
      intro c
      induction c with
      | nil => intro _; exact ⟨[], rfl, fun z q => by cases q⟩
      | cons x c ih =>
        intro hc
        obtain ⟨zs, rfl, hz⟩ := ih fun i y q => hc (i + 1) y (by simpa using q)
        have hx := hc 0 x rfl
        cases hx with
        | int hw =>
          rename_i m
          refine ⟨m :: zs, rfl, fun z q => ?_⟩
          rcases List.mem_cons.1 q with rfl | q
          · exact wf_i64 hw
          · exact hz z q
    obtain ⟨zs, rfl, hz⟩ := key c fun i x q => hh i x _ q (by simp [Nat.mod_one])
    exact ⟨zs, rfl, by rw [ic_len] at hl; simpa using hl.symm, hz⟩
theorem csum_at {zs : List Int} {n : Nat} (hz : intsIn zs) (hn : n = zs.length) (hl : n * 8 ≤ 140737488351232) : checkedSum [.n n, .l (ic zs)] = some [.i (sumR 0 zs).1, .b (sumR 0 zs).2] := by
  show (Option.bind (intsOf (ic zs)) fun zs => if zs.length = n ∧ n * 8 ≤ 140737488351232 ∧ intsIn zs then some [Dat.i (sumR 0 zs).1, Dat.b (sumR 0 zs).2] else none) = _
  rw [ic_ints, Option.bind_some, if_pos ⟨hn.symm, hl, hz⟩]
theorem kclone_at {zs : List Int} {n : Nat} (hn : n = zs.length) (hl : n ≤ 1000) : F_slices_Cloneint64_int64_ [.n n, .l (ic zs)] = some [.n n, .l (ic zs)] := by
  have key : F_slices_Cloneint64_int64__list [.n n, .l (ic zs)] = some [.n n, .l (ic zs)] := by
    unfold F_slices_Cloneint64_int64__list
    have hL : (ic zs).length = n := by rw [ic_len, hn]
    by_cases h0 : n ≤ 0
    · have : zs = [] := List.eq_nil_of_length_eq_zero (by omega)
      subst this
      have : n = 0 := by omega
      subst this
      rfl
    · have e1 : List.take n (ic zs) = ic zs := List.take_of_length_le (by omega)
      simp (disch := first | assumption | omega) only [onI_c, onS_c, onB_c, onN_c, onL_c, Option.bind_some, Option.map_some, cond_true, cond_false, ↓onI_c, ↓onS_c, ↓onB_c, ↓onN_c, ↓onL_c, ↓Option.bind_some, ↓cond_true, ↓cond_false, decide_eq_true, decide_eq_false, Bool.not_true, Bool.not_false, Int.toNat_natCast, List.length_append, List.length_cons, List.length_nil, List.drop_zero, Nat.zero_add, Nat.add_zero, decT, decF, bneI_t, bneI_f, List.nil_append, Nat.mul_one, hL, e1, ic_closed]
  unfold F_slices_Cloneint64_int64_ Ax.seq3
  rw [key]
  rfl
theorem run_equal {zs : List Int} {n : Nat} (hn : n = zs.length) (hl : n ≤ 1000) : ∀ (m i : Nat), i + m = n → iter F_slices_Equalint64_int64__L0 [.n n, .l (ic zs), .n n, .l (ic zs), .i ((n : Nat) : Int), .i ((i : Nat) : Int)] = some [.b true] := by
  intro m
  induction m with
  | zero =>
    intro i hi
    refine iter_end ?_
    unfold F_slices_Equalint64_int64__L0
    simp (disch := omega) only [onI_c, onS_c, onB_c, onN_c, onL_c, Option.bind_some, Option.map_some, cond_true, cond_false, ↓onI_c, ↓onS_c, ↓onB_c, ↓onN_c, ↓onL_c, ↓Option.bind_some, ↓cond_true, ↓cond_false, decide_eq_true, decide_eq_false, Bool.not_true, Bool.not_false, Int.toNat_natCast, List.length_append, List.length_cons, List.length_nil, List.drop_zero, Nat.zero_add, Nat.add_zero, decT, decF, bneI_t, bneI_f]
  | succ m ih =>
    intro i hi
    rw [iter_next (y := [.n n, .l (ic zs), .n n, .l (ic zs), .i ((n : Nat) : Int), .i ((i + 1 : Nat) : Int)]), ih (i + 1) (by omega)]
    unfold F_slices_Equalint64_int64__L0
    have e1 := ic_at (zs := zs) (i := i) (by omega)
    have e2 : i64 ((i : Int) + 1) = ((i + 1 : Nat) : Int) := by rw [i64_in _ (by omega)]; omega
    have t5 : ∀ x : Int, decide (x = x) = true := fun x => decide_eq_true rfl
    simp (disch := omega) only [onI_c, onS_c, onB_c, onN_c, onL_c, Option.bind_some, Option.map_some, cond_true, cond_false, ↓onI_c, ↓onS_c, ↓onB_c, ↓onN_c, ↓onL_c, ↓Option.bind_some, ↓cond_true, ↓cond_false, decide_eq_true, decide_eq_false, Bool.not_true, Bool.not_false, Int.toNat_natCast, List.length_append, List.length_cons, List.length_nil, List.drop_zero, Nat.zero_add, Nat.add_zero, decT, decF, bneI_t, bneI_f, e1, e2, ↓t5]
theorem kequal_at {zs : List Int} {n : Nat} (hn : n = zs.length) (hl : n ≤ 1000) : F_slices_Equalint64_int64_ [.n n, .l (ic zs), .n n, .l (ic zs)] = some [.b true] := by
  have h := run_equal hn hl n 0 (by omega)
  unfold F_slices_Equalint64_int64_
  have t5 : ∀ x : Int, decide (x = x) = true := fun x => decide_eq_true rfl
  simp (disch := omega) only [onI_c, onS_c, onB_c, onN_c, onL_c, Option.bind_some, Option.map_some, cond_true, cond_false, ↓onI_c, ↓onS_c, ↓onB_c, ↓onN_c, ↓onL_c, ↓Option.bind_some, ↓cond_true, ↓cond_false, decide_eq_true, decide_eq_false, Bool.not_true, Bool.not_false, Int.toNat_natCast, List.length_append, List.length_cons, List.length_nil, List.drop_zero, Nat.zero_add, Nat.add_zero, decT, decF, bneI_t, bneI_f, ↓t5]
  exact h
theorem sumR_cons (s z : Int) (zs : List Int) : sumR s (z :: zs) = if In6 (s + z) then sumR (s + z) zs else (0, false) := rfl
theorem run_rsum {zs : List Int} {n : Nat} (hz : intsIn zs) (hn : n = zs.length) (hl : n ≤ 1000) : ∀ (m i : Nat) (s : Int), In6 s → i + m = n → iter F_ref03_Sum_L0 [.n n, .l (ic zs), .i s, .i ((i : Nat) : Int)] = some [.i (sumR s (zs.drop i)).1, .b (sumR s (zs.drop i)).2] := by
  intro m
  induction m with
  | zero =>
    intro i s hs hi
    rw [List.drop_of_length_le (by omega)]
    refine iter_end ?_
    unfold F_ref03_Sum_L0
    simp (disch := omega) only [onI_c, onS_c, onB_c, onN_c, onL_c, Option.bind_some, Option.map_some, cond_true, cond_false, ↓onI_c, ↓onS_c, ↓onB_c, ↓onN_c, ↓onL_c, ↓Option.bind_some, ↓cond_true, ↓cond_false, decide_eq_true, decide_eq_false, Bool.not_true, Bool.not_false, Int.toNat_natCast, List.length_append, List.length_cons, List.length_nil, List.drop_zero, Nat.zero_add, Nat.add_zero, decT, decF, bneI_t, bneI_f, sumR]
  | succ m ih =>
    intro i s hs hi
    have hlt : i < zs.length := by omega
    have e1 := ic_at hlt
    have e2 : i64 ((i : Int) + 1) = ((i + 1 : Nat) : Int) := by rw [i64_in _ (by omega)]; omega
    have hx : In6 (zs[i]?.getD 0) := by rw [List.getElem?_eq_getElem hlt]; exact hz _ (List.getElem_mem _)
    have hd : zs.drop i = (zs[i]?.getD 0) :: zs.drop (i + 1) := by rw [List.getElem?_eq_getElem hlt]; exact List.drop_eq_getElem_cons hlt
    rw [hd]
    generalize zs[i]?.getD 0 = x at *
    have p1 := kradd_at hs hx
    by_cases h : In6 (s + x)
    · rw [sumR_cons, if_pos h]
      rw [pr6_in h] at p1
      rw [iter_next (y := [.n n, .l (ic zs), .i (s + x), .i ((i + 1 : Nat) : Int)]), ih (i + 1) _ h (by omega)]
      unfold F_ref03_Sum_L0
      simp (disch := omega) only [onI_c, onS_c, onB_c, onN_c, onL_c, Option.bind_some, Option.map_some, cond_true, cond_false, ↓onI_c, ↓onS_c, ↓onB_c, ↓onN_c, ↓onL_c, ↓Option.bind_some, ↓cond_true, ↓cond_false, decide_eq_true, decide_eq_false, Bool.not_true, Bool.not_false, Int.toNat_natCast, List.length_append, List.length_cons, List.length_nil, List.drop_zero, Nat.zero_add, Nat.add_zero, decT, decF, bneI_t, bneI_f, e1, e2, p1]
    · rw [sumR_cons, if_neg h]
      rw [pr6_out h] at p1
      refine iter_end ?_
      unfold F_ref03_Sum_L0
      simp (disch := omega) only [onI_c, onS_c, onB_c, onN_c, onL_c, Option.bind_some, Option.map_some, cond_true, cond_false, ↓onI_c, ↓onS_c, ↓onB_c, ↓onN_c, ↓onL_c, ↓Option.bind_some, ↓cond_true, ↓cond_false, decide_eq_true, decide_eq_false, Bool.not_true, Bool.not_false, Int.toNat_natCast, List.length_append, List.length_cons, List.length_nil, List.drop_zero, Nat.zero_add, Nat.add_zero, decT, decF, bneI_t, bneI_f, e1, e2, p1]
theorem lawP_CheckedSums {dats : List Dat} (h : DatOk tau [.slice 2] dats) : F_law03_CheckedSums dats = some [.b true] := by
  obtain ⟨n, c, r, rfl, hc, rfl⟩ := h
  obtain ⟨zs, rfl, hn, hz⟩ := cells_ic (by kernel_rfl) hc
  unfold F_law03_CheckedSums
  by_cases hl : 1000 < n
  · simp (disch := omega) only [onI_c, onS_c, onB_c, onN_c, onL_c, Option.bind_some, Option.map_some, cond_true, cond_false, ↓onI_c, ↓onS_c, ↓onB_c, ↓onN_c, ↓onL_c, ↓Option.bind_some, ↓cond_true, ↓cond_false, decide_eq_true, decide_eq_false, Bool.not_true, Bool.not_false, Int.toNat_natCast, List.length_append, List.length_cons, List.length_nil, List.drop_zero, Nat.zero_add, Nat.add_zero, decT, decF, bneI_t, bneI_f, kworks_at]
  · have p1 := kclone_at hn (by omega)
    have p2 := csum_at hz hn (by omega)
    have p3 := run_rsum hz hn (by omega) n 0 0 (by decide) (by omega)
    rw [List.drop_zero] at p3
    have p4 : F_ref03_Sum [.n n, .l (ic zs)] = some [.i (sumR 0 zs).1, .b (sumR 0 zs).2] := p3
    have p5 := kequal_at hn (by omega)
    simp (disch := omega) only [onI_c, onS_c, onB_c, onN_c, onL_c, Option.bind_some, Option.map_some, cond_true, cond_false, ↓onI_c, ↓onS_c, ↓onB_c, ↓onN_c, ↓onL_c, ↓Option.bind_some, ↓cond_true, ↓cond_false, decide_eq_true, decide_eq_false, Bool.not_true, Bool.not_false, Int.toNat_natCast, List.length_append, List.length_cons, List.length_nil, List.drop_zero, Nat.zero_add, Nat.add_zero, decT, decF, bneI_t, bneI_f, p1, p2, p4, p5, kis_same, kworks_at]

/-! ## sums of parts -/
theorem sumR_snoc : ∀ (zs : List Int) (s x : Int), sumR s (zs ++ [x]) = if (sumR s zs).2 = true ∧ In6 ((sumR s zs).1 + x) then ((sumR s zs).1 + x, true) else (0, false)
  | [], s, x => by
    show (if In6 (s + x) then sumR (s + x) [] else (0, false)) = _
    by_cases h : In6 (s + x)
    · rw [if_pos h, if_pos ⟨rfl, h⟩]; rfl
    · rw [if_neg h, if_neg (fun q => h q.2)]
  | z :: zs, s, x => by
    rw [List.cons_append, sumR_cons, sumR_cons]
    by_cases h : In6 (s + z)
    · rw [if_pos h, if_pos h]; exact sumR_snoc zs _ x
    · rw [if_neg h, if_neg h, if_neg (fun q => by cases q.1)]
theorem sumR_ok : ∀ (zs : List Int) (s : Int), In6 s → In6 (sumR s zs).1 ∧ ((sumR s zs).2 = false → (sumR s zs).1 = 0)
  | [], s, h => ⟨h, fun q => by cases q⟩
  | z :: zs, s, _ => by
    rw [sumR_cons]
    by_cases h : In6 (s + z)
    · rw [if_pos h]; exact sumR_ok zs _ h
    · rw [if_neg h]; exact ⟨(by decide : In6 0), fun _ => rfl⟩
theorem run_parts {zs : List Int} {n : Nat} (hz : intsIn zs) (hn : n = zs.length) (hl : n ≤ 300) : ∀ (m i : Nat), i + m = n →
    iter F_law03_CheckedParts_L0 [.n n, .l (ic zs), .i (sumR 0 (zs.take i)).1, .b (sumR 0 (zs.take i)).2, .n n, .l (ic zs), .i ((n : Nat) : Int), .i ((i : Nat) : Int)] = some [.b true] := by
  intro m
  induction m with
  | zero =>
    intro i hi
    refine iter_end ?_
    unfold F_law03_CheckedParts_L0
    simp (disch := omega) only [onI_c, onS_c, onB_c, onN_c, onL_c, Option.bind_some, Option.map_some, cond_true, cond_false, ↓onI_c, ↓onS_c, ↓onB_c, ↓onN_c, ↓onL_c, ↓Option.bind_some, ↓cond_true, ↓cond_false, decide_eq_true, decide_eq_false, Bool.not_true, Bool.not_false, Int.toNat_natCast, List.length_append, List.length_cons, List.length_nil, List.drop_zero, Nat.zero_add, Nat.add_zero, decT, decF, bneI_t, bneI_f, kworks_at]
  | succ m ih =>
    intro i hi
    have ih := ih (i + 1) (by omega)
    have hlt : i < zs.length := by omega
    have e1 := ic_at hlt
    have e2 : i64 ((i : Int) + 1) = ((i + 1 : Nat) : Int) := by rw [i64_in _ (by omega)]; omega
    have hx : In6 (zs[i]?.getD 0) := by rw [List.getElem?_eq_getElem hlt]; exact hz _ (List.getElem_mem _)
    have ht : zs.take (i + 1) = zs.take i ++ [zs[i]?.getD 0] := by rw [List.getElem?_eq_getElem hlt, List.take_succ_eq_append_getElem hlt]; rfl
    have e3 : List.take (i + 1) (ic zs) = ic (zs.take (i + 1)) := ic_take _ _
    have hz2 : intsIn (zs.take (i + 1)) := fun z q => hz z (List.mem_of_mem_take q)
    have p2 := csum_at (n := i + 1) hz2 (by rw [List.length_take]; omega) (by omega)
    have hL : (ic zs).length = n := by rw [ic_len, hn]
    have hsn := sumR_snoc (zs.take i) 0 (zs[i]?.getD 0)
    rw [← ht] at hsn
    have hok := sumR_ok (zs.take i) 0 (by decide)
    generalize zs[i]?.getD 0 = x at *
    have p1 := kadd_at hok.1 hx
    have t5 : ∀ x : Int, decide (x = x) = true := fun x => decide_eq_true rfl
    rw [iter_next (y := [.n n, .l (ic zs), .i (sumR 0 (zs.take (i + 1))).1, .b (sumR 0 (zs.take (i + 1))).2, .n n, .l (ic zs), .i ((n : Nat) : Int), .i ((i + 1 : Nat) : Int)]), ih]
    unfold F_law03_CheckedParts_L0
    generalize zs.take (i + 1) = zt at *
    clear ht hz2
    generalize sumR 0 (zs.take i) = r at *
    generalize sumR 0 zt = r' at *
    obtain ⟨s, f⟩ := r
    obtain ⟨s', f'⟩ := r'
    dsimp only at *
    have b1 : (true == true) = true := rfl
    have b4 : (false == false) = true := rfl
    by_cases h : In6 (s + x)
    · rw [pr6_in h] at p1
      cases f with
      | true =>
        rw [if_pos ⟨rfl, h⟩] at hsn
        cases hsn
        simp (disch := omega) only [onI_c, onS_c, onB_c, onN_c, onL_c, Option.bind_some, Option.map_some, cond_true, cond_false, ↓onI_c, ↓onS_c, ↓onB_c, ↓onN_c, ↓onL_c, ↓Option.bind_some, ↓cond_true, ↓cond_false, decide_eq_true, decide_eq_false, Bool.not_true, Bool.not_false, Int.toNat_natCast, List.length_append, List.length_cons, List.length_nil, List.drop_zero, Nat.zero_add, Nat.add_zero, decT, decF, bneI_t, bneI_f, e1, e2, e3, hL, p1, p2, ↓t5, ↓b1, ↓b4]
      | false =>
        rw [if_neg (fun q => by cases q.1)] at hsn
        cases hsn
        simp (disch := omega) only [onI_c, onS_c, onB_c, onN_c, onL_c, Option.bind_some, Option.map_some, cond_true, cond_false, ↓onI_c, ↓onS_c, ↓onB_c, ↓onN_c, ↓onL_c, ↓Option.bind_some, ↓cond_true, ↓cond_false, decide_eq_true, decide_eq_false, Bool.not_true, Bool.not_false, Int.toNat_natCast, List.length_append, List.length_cons, List.length_nil, List.drop_zero, Nat.zero_add, Nat.add_zero, decT, decF, bneI_t, bneI_f, e1, e2, e3, hL, p1, p2, ↓t5, ↓b1, ↓b4]
    · rw [pr6_out h] at p1
      rw [if_neg (fun q => h q.2)] at hsn
      cases hsn
      cases f <;> simp (disch := omega) only [onI_c, onS_c, onB_c, onN_c, onL_c, Option.bind_some, Option.map_some, cond_true, cond_false, ↓onI_c, ↓onS_c, ↓onB_c, ↓onN_c, ↓onL_c, ↓Option.bind_some, ↓cond_true, ↓cond_false, decide_eq_true, decide_eq_false, Bool.not_true, Bool.not_false, Int.toNat_natCast, List.length_append, List.length_cons, List.length_nil, List.drop_zero, Nat.zero_add, Nat.add_zero, decT, decF, bneI_t, bneI_f, e1, e2, e3, hL, p1, p2, ↓t5, ↓b1, ↓b4]
theorem lawP_CheckedParts {dats : List Dat} (h : DatOk tau [.slice 2] dats) : F_law03_CheckedParts dats = some [.b true] := by
  obtain ⟨n, c, r, rfl, hc, rfl⟩ := h
  obtain ⟨zs, rfl, hn, hz⟩ := cells_ic (by kernel_rfl) hc
  unfold F_law03_CheckedParts
  by_cases hl : 300 < n
  · simp (disch := omega) only [onI_c, onS_c, onB_c, onN_c, onL_c, Option.bind_some, Option.map_some, cond_true, cond_false, ↓onI_c, ↓onS_c, ↓onB_c, ↓onN_c, ↓onL_c, ↓Option.bind_some, ↓cond_true, ↓cond_false, decide_eq_true, decide_eq_false, Bool.not_true, Bool.not_false, Int.toNat_natCast, List.length_append, List.length_cons, List.length_nil, List.drop_zero, Nat.zero_add, Nat.add_zero, decT, decF, bneI_t, bneI_f, kworks_at]
  · have p1 := run_parts hz hn (by omega) n 0 (by omega)
    simp (disch := omega) only [onI_c, onS_c, onB_c, onN_c, onL_c, Option.bind_some, Option.map_some, cond_true, cond_false, ↓onI_c, ↓onS_c, ↓onB_c, ↓onN_c, ↓onL_c, ↓Option.bind_some, ↓cond_true, ↓cond_false, decide_eq_true, decide_eq_false, Bool.not_true, Bool.not_false, Int.toNat_natCast, List.length_append, List.length_cons, List.length_nil, List.drop_zero, Nat.zero_add, Nat.add_zero, decT, decF, bneI_t, bneI_f]
    exact p1
end Go.Proofs.Ytkjlobjnboljbaa
