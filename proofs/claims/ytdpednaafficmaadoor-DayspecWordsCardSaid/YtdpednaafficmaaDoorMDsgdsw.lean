/-
  DayspecWords: the law.
-/
import Derived.Test.YtdpednaafficmaaDoorMDsedsw
namespace Go.Proofs.YtdpednaafficmaaDoor
open Go.Ax Go.Lib
set_option linter.all false
set_option maxHeartbeats 4000000
set_option maxRecDepth 100000
attribute [local congr] cond_cong bind_cong onI_cong onB_cong onS_cong onN_cong onL_cong

theorem made1 {j : Nat} (hj : j < 7) (day : Int) : F_law09_Made [.i 1, .i (j : Int), .i day] = some [.i 2, .i (j : Int), .i 0] := by
  have h1 : i64 (1 + i64 (Int.tmod 1 4)) = 2 := rfl
  have h2 : i64 (Int.tmod (j : Int) 7) = (j : Int) := by rw [tmod_nn (by omega), i64_in _ (by omega)]; omega
  unfold F_law09_Made
  simp (disch := omega) only [onI_c, onS_c, onB_c, onN_c, onL_c, Option.bind_some, Option.map_some, cond_true, cond_false, ↓onI_c, ↓onS_c, ↓onB_c, ↓onN_c, ↓onL_c, ↓Option.bind_some, ↓cond_true, ↓cond_false, decide_eq_true, decide_eq_false, Bool.not_true, Bool.not_false, Int.toNat_natCast, List.length_append, List.length_cons, List.length_nil, List.drop_zero, Nat.zero_add, Nat.add_zero, decT, decF, bneI_t, bneI_f, h1, h2]
theorem made2 {j y : Nat} (hj : j < 7) {day : Int} (hy : i64 (1 + i64 (Int.tmod day 31)) = (y : Int)) : F_law09_Made [.i 2, .i (j : Int), .i day] = some [.i 3, .i (j : Int), .i (y : Int)] := by
  have h1 : i64 (1 + i64 (Int.tmod 2 4)) = 3 := rfl
  have h2 : i64 (Int.tmod (j : Int) 7) = (j : Int) := by rw [tmod_nn (by omega), i64_in _ (by omega)]; omega
  unfold F_law09_Made
  simp (disch := omega) only [onI_c, onS_c, onB_c, onN_c, onL_c, Option.bind_some, Option.map_some, cond_true, cond_false, ↓onI_c, ↓onS_c, ↓onB_c, ↓onN_c, ↓onL_c, ↓Option.bind_some, ↓cond_true, ↓cond_false, decide_eq_true, decide_eq_false, Bool.not_true, Bool.not_false, Int.toNat_natCast, List.length_append, List.length_cons, List.length_nil, List.drop_zero, Nat.zero_add, Nat.add_zero, decT, decF, bneI_t, bneI_f, h1, h2, hy]
theorem made3 {j y : Nat} (hj : j < 7) {day : Int} (hy : i64 (1 + i64 (Int.tmod day 31)) = (y : Int)) : F_law09_Made [.i 3, .i (j : Int), .i day] = some [.i 4, .i (j : Int), .i (y : Int)] := by
  have h1 : i64 (1 + i64 (Int.tmod 3 4)) = 4 := rfl
  have h2 : i64 (Int.tmod (j : Int) 7) = (j : Int) := by rw [tmod_nn (by omega), i64_in _ (by omega)]; omega
  unfold F_law09_Made
  simp (disch := omega) only [onI_c, onS_c, onB_c, onN_c, onL_c, Option.bind_some, Option.map_some, cond_true, cond_false, ↓onI_c, ↓onS_c, ↓onB_c, ↓onN_c, ↓onL_c, ↓Option.bind_some, ↓cond_true, ↓cond_false, decide_eq_true, decide_eq_false, Bool.not_true, Bool.not_false, Int.toNat_natCast, List.length_append, List.length_cons, List.length_nil, List.drop_zero, Nat.zero_add, Nat.add_zero, decT, decF, bneI_t, bneI_f, h1, h2, hy]
theorem ok_parts {b : UInt8} (h : okB b = true) : (u7 b = true ∧ u7 (upperB b) = true) ∧ ([60, 62] : List UInt8).contains b = false ∧ ([60, 62] : List UInt8).contains (upperB b) = false := by
  unfold okB at h
  rw [Bool.and_eq_true, Bool.and_eq_true, Bool.and_eq_true] at h
  obtain ⟨⟨h1, h2⟩, h3, h4⟩ := h
  exact ⟨⟨h1, h2⟩, by simpa using h3, by simpa using h4⟩
theorem no_op {u s : List UInt8} (h : co u s) (hs : ∀ b ∈ s, okB b = true) : noOp u := fun a ha => by
  have := co_all (p := fun b => !([60, 62] : List UInt8).contains b) h (fun b hb => by
    obtain ⟨_, h1, h2⟩ := ok_parts (hs b hb)
    exact ⟨by rw [h1]; rfl, by rw [h2]; rfl⟩) a ha
  cases hh : ([60, 62] : List UInt8).contains a with
  | false => rfl
  | true => rw [hh] at this; cases this
theorem asc {u s : List UInt8} (h : co u s) (hs : ∀ b ∈ s, u7 b = true ∧ u7 (upperB b) = true) : asciiB u = true :=
  ascii_all fun a ha => of_decide_eq_true (co_all h hs a ha)
/-- .. with an operator. -/
theorem q_op {w num : List UInt8} {o : UInt8} {kind : Int} {j y : Nat} (ho : (o = 62 ∧ kind = 3) ∨ (o = 60 ∧ kind = 4)) (hw : ∀ b ∈ w, okB b = true) (hl : w.length ≤ 20) (hn : num.length ≤ 3) (hnum : num.all (fun b => okB b && upperB b == b) = true)
    (hW : F_word_Week [.s w] = some [.i (j : Int), .i 0]) (hD : F_dayspec_dayNumber [.s num] = some [.i (y : Int), .i 0]) : ∀ u, co u ((w ++ [o, 61]) ++ num) → F_dayspec_Parse [.s u] = some [.i kind, .i (j : Int), .i (y : Int), .i 0] := by
  intro u hu
  have hnum' : ∀ b ∈ num, okB b = true ∧ upperB b = b := fun b hb => by
    have := List.all_eq_true.1 hnum b hb
    rw [Bool.and_eq_true] at this
    exact ⟨this.1, eq_of_beq this.2⟩
  have hop : ∀ b ∈ ([o, 61] : List UInt8), (u7 b = true ∧ u7 (upperB b) = true) ∧ upperB b = b := by
    rcases ho with ⟨rfl, _⟩ | ⟨rfl, _⟩ <;> decide +kernel
  have ha := asc hu (fun b hb => by
    rcases List.mem_append.1 hb with hb | hb
    · rcases List.mem_append.1 hb with hb | hb
      · exact (ok_parts (hw b hb)).1
      · exact (hop b hb).1
    · exact (ok_parts (hnum' b hb).1).1)
  rw [List.append_assoc] at hu
  obtain ⟨u1, u2, rfl, h1, h2⟩ := co_append hu
  have h2 := co_eq h2 (fun b hb => by
    rcases List.mem_append.1 hb with hb | hb
    · exact (hop b hb).2
    · exact (hnum' b hb).2)
  subst h2
  have hlen := co_len h1
  have hu1 := no_op h1 hw
  have hb : F_dayspec_between [.i kind, .s u1, .s num] = some [.i kind, .i (j : Int), .i (y : Int), .i 0] := by
    have hW1 : F_word_Week [.s u1] = some [.i (j : Int), .i 0] := by rw [week_same (co_small h1) (by omega) (by omega)]; exact hW
    unfold F_dayspec_between
    simp (disch := omega) only [onI_c, onS_c, onB_c, onN_c, onL_c, Option.bind_some, Option.map_some, cond_true, cond_false, ↓onI_c, ↓onS_c, ↓onB_c, ↓onN_c, ↓onL_c, ↓Option.bind_some, ↓cond_true, ↓cond_false, decide_eq_true, decide_eq_false, Bool.not_true, Bool.not_false, Int.toNat_natCast, List.length_append, List.length_cons, List.length_nil, List.drop_zero, Nat.zero_add, Nat.add_zero, decT, decF, bneI_t, bneI_f, hW1, hD]
  exact parse_op (num := num) ho hu1 (by omega) (by omega) ha hb
theorem q_last {w : List UInt8} {j : Nat} (hw : ∀ b ∈ w, okB b = true) (hl : w.length ≤ 20) (hW : F_word_Week [.s w] = some [.i (j : Int), .i 0]) : ∀ u, co u (([108, 97, 115, 116] : List UInt8) ++ w) → F_dayspec_Parse [.s u] = some [.i 2, .i (j : Int), .i 0, .i 0] := by
  intro u hu
  have hs : ∀ b ∈ ([108, 97, 115, 116] : List UInt8) ++ w, okB b = true := fun b hb => by
    rcases List.mem_append.1 hb with hb | hb
    · exact (by decide +kernel : ∀ b ∈ ([108, 97, 115, 116] : List UInt8), okB b = true) b hb
    · exact hw b hb
  have ha := asc hu (fun b hb => (ok_parts (hs b hb)).1)
  have hno := no_op hu hs
  obtain ⟨u1, u2, rfl, h1, h2⟩ := co_append hu
  have hlen := co_len h2
  refine parse_last h1 hno (by omega) ha ?_
  rw [week_same (co_small h2) (by omega) (by omega)]; exact hW

theorem dayspecWords {week many size day kind : Int} (h1 : 0 ≤ week ∧ week ≤ 255) (h2 : 0 ≤ many ∧ many ≤ 255) (h4 : 0 ≤ day ∧ day ≤ 255) (h5 : 0 ≤ kind ∧ kind ≤ 255) : F_law09_DayspecWords [.i week, .i many, .i size, .i day, .i kind] = some [.b true] := by
  obtain ⟨j, j1, hj⟩ : ∃ j : Nat, Int.tmod week 7 = (j : Int) ∧ j < 7 := ⟨(week % 7).toNat, by rw [tmod_nn h1.1]; omega, by omega⟩
  have ej : i64 (j : Int) = (j : Int) := i64_in _ (by omega)
  have uj : u8 (j : Int) = (j : Int) := u8_in _ (by omega)
  have em : i64 many = many := i64_in _ (by omega)
  have a1 := wk_at hj
  have a2 := lst_at hj
  obtain ⟨f1, f2, f3, f4, f5⟩ := wk_facts hj
  have fw := few_at hj
  have bg : ∀ n : Nat, _ := fun n => beg_at (j := j) (n := n) hj
  generalize wk.getD j [] = w at *
  generalize lst.getD j 0 = x at *
  have e3 : i64 ((w.length : Int) - x) = (w.length : Int) - x := i64_in _ (by omega)
  have e4 : i64 ((w.length : Int) - x + 1) = (w.length : Int) - x + 1 := i64_in _ (by omega)
  have q1 := Int.emod_nonneg many (show (w.length : Int) - x + 1 ≠ 0 by omega)
  have q2 := Int.emod_lt_of_pos many (show (0 : Int) < (w.length : Int) - x + 1 by omega)
  obtain ⟨n, n1, n2, n3⟩ : ∃ n : Nat, i64 (x + Int.tmod many ((w.length : Int) - x + 1)) = (n : Int) ∧ x ≤ (n : Int) ∧ n ≤ w.length :=
    ⟨(x + many % ((w.length : Int) - x + 1)).toNat, by rw [tmod_nn h2.1, i64_in _ (by omega)]; omega, by omega, by omega⟩
  have hW := bg n n2 n3 (by omega)
  have hwo : ∀ b ∈ w.take n, okB b = true := fun b hb => List.all_eq_true.1 f3 b (List.mem_of_mem_take hb)
  have htl : (w.take n).length = n := by rw [List.length_take]; omega
  have t1 : (w.take n).take 1 = w.take 1 := by rw [List.take_take, Nat.min_eq_left (by omega)]
  rw [← t1] at fw
  clear bg q1 q2 h1 h2 f3 t1
  have bne : ((w.length : Int) - x + 1 != 0) = true := bneI_t (by omega)
  obtain ⟨q, hq⟩ : ∃ q : Int, Int.tmod kind 3 = q := ⟨_, rfl⟩
  have hq' : q = 0 ∨ q = 1 ∨ q = 2 := by rw [tmod_nn h5.1] at hq; omega
  obtain ⟨y, y1, y2, y3⟩ : ∃ y : Nat, i64 (1 + i64 (Int.tmod day 31)) = (y : Int) ∧ y < 32 ∧ y ≠ 0 := ⟨(1 + day % 31).toNat, by rw [tmod_nn h4.1, i64_in (day % 31) (by omega), i64_in _ (by omega)]; omega, by omega, by omega⟩
  generalize hv : w.take n = v at *
  have hvl : v.length ≤ 9 := by omega
  unfold F_law09_DayspecWords
  rcases hq' with rfl | rfl | rfl
  · have hk : u8 (1 + 0) = 1 := rfl
    have hm := made1 hj day
    obtain ⟨s1, s2, s3, b1, b2, b3, b4, b5, b6, _⟩ := num_at (y := 0) (by decide)
    have b1 : Ax.bytesOf [(Ax.AV.int .u8 (Ax.I.sym (u8 (i64 (48 + (i64 (Int.tdiv 0 10))))))), (Ax.AV.int .u8 (Ax.I.sym (u8 (i64 (48 + (Int.tmod 0 10))))))] = some s1 := b1
    have hcl := (Sm.br_cells (([108, 97, 115, 116] : List UInt8) ++ v)).closed
    simp (disch := first | assumption | omega) only [onI_c, onS_c, onB_c, onN_c, onL_c, Option.bind_some, Option.map_some, cond_true, cond_false, ↓onI_c, ↓onS_c, ↓onB_c, ↓onN_c, ↓onL_c, ↓Option.bind_some, ↓cond_true, ↓cond_false, decide_eq_true, decide_eq_false, Bool.not_true, Bool.not_false, Int.toNat_natCast, List.length_append, List.length_cons, List.length_nil, List.drop_zero, Nat.zero_add, Nat.add_zero, decT, decF, bneI_t, bneI_f, j1, ej, uj, em, a1, a2, e3, e4, bne, n1, hv, hq, hk, hm, b1, b3, b4, hcl]
    refine dloop (c0 := 2) (c1 := (j : Int)) (c2 := 0) (s := ([108, 97, 115, 116] : List UInt8) ++ v) (by simp; try omega) (by try omega) (by omega) (fun b hb => ?_) (q_last hwo (by omega) hW) (fun hx => ⟨by omega, fw hx⟩) _ 0 _ _ (Nat.zero_add _) (Sm.br_cells _) (co_refl _)
    rcases List.mem_append.1 hb with hb | hb
    · exact (by decide +kernel : ∀ b ∈ ([108, 97, 115, 116] : List UInt8), u7 b = true ∧ u7 (upperB b) = true) b hb
    · exact (ok_parts (hwo b hb)).1
  · have hk : u8 (1 + 1) = 2 := rfl
    have hm := made2 hj y1
    obtain ⟨s1, s2, s3, b1, b2, b3, b4, b5, b6, b7⟩ := num_at y2
    have hcl := (Sm.br_cells ((v ++ ([62, 61] : List UInt8)) ++ s3)).closed
    simp (disch := first | assumption | omega) only [onI_c, onS_c, onB_c, onN_c, onL_c, Option.bind_some, Option.map_some, cond_true, cond_false, ↓onI_c, ↓onS_c, ↓onB_c, ↓onN_c, ↓onL_c, ↓Option.bind_some, ↓cond_true, ↓cond_false, decide_eq_true, decide_eq_false, Bool.not_true, Bool.not_false, Int.toNat_natCast, List.length_append, List.length_cons, List.length_nil, List.drop_zero, Nat.zero_add, Nat.add_zero, decT, decF, bneI_t, bneI_f, j1, ej, uj, em, a1, a2, e3, e4, bne, n1, hv, hq, hk, hm, b1, b3, b4, hcl]
    rw [l2_l0]
    refine dloop (c0 := 3) (c1 := (j : Int)) (c2 := (y : Int)) (s := (v ++ ([62, 61] : List UInt8)) ++ s3) (by simp; try omega) (by try omega) (by omega) (fun b hb => ?_) (q_op (.inl ⟨rfl, rfl⟩) hwo (by omega) b5 b6 hW (b7 y3)) (fun hx => ⟨by omega, fw hx⟩) _ 0 _ _ (Nat.zero_add _) (Sm.br_cells _) (co_refl _)
    rcases List.mem_append.1 hb with hb | hb
    · rcases List.mem_append.1 hb with hb | hb
      · exact (ok_parts (hwo b hb)).1
      · exact (by decide +kernel : ∀ b ∈ ([62, 61] : List UInt8), u7 b = true ∧ u7 (upperB b) = true) b hb
    · have := List.all_eq_true.1 b6 b hb
      rw [Bool.and_eq_true] at this
      exact (ok_parts this.1).1
  · have hk : u8 (1 + 2) = 3 := rfl
    have hm := made3 hj y1
    obtain ⟨s1, s2, s3, b1, b2, b3, b4, b5, b6, b7⟩ := num_at y2
    have hcl := (Sm.br_cells ((v ++ ([60, 61] : List UInt8)) ++ s3)).closed
    simp (disch := first | assumption | omega) only [onI_c, onS_c, onB_c, onN_c, onL_c, Option.bind_some, Option.map_some, cond_true, cond_false, ↓onI_c, ↓onS_c, ↓onB_c, ↓onN_c, ↓onL_c, ↓Option.bind_some, ↓cond_true, ↓cond_false, decide_eq_true, decide_eq_false, Bool.not_true, Bool.not_false, Int.toNat_natCast, List.length_append, List.length_cons, List.length_nil, List.drop_zero, Nat.zero_add, Nat.add_zero, decT, decF, bneI_t, bneI_f, j1, ej, uj, em, a1, a2, e3, e4, bne, n1, hv, hq, hk, hm, b1, b3, b4, hcl]
    rw [l1_l0]
    refine dloop (c0 := 4) (c1 := (j : Int)) (c2 := (y : Int)) (s := (v ++ ([60, 61] : List UInt8)) ++ s3) (by simp; try omega) (by try omega) (by omega) (fun b hb => ?_) (q_op (.inr ⟨rfl, rfl⟩) hwo (by omega) b5 b6 hW (b7 y3)) (fun hx => ⟨by omega, fw hx⟩) _ 0 _ _ (Nat.zero_add _) (Sm.br_cells _) (co_refl _)
    rcases List.mem_append.1 hb with hb | hb
    · rcases List.mem_append.1 hb with hb | hb
      · exact (ok_parts (hwo b hb)).1
      · exact (by decide +kernel : ∀ b ∈ ([60, 61] : List UInt8), u7 b = true ∧ u7 (upperB b) = true) b hb
    · have := List.all_eq_true.1 b6 b hb
      rw [Bool.and_eq_true] at this
      exact (ok_parts this.1).1
theorem lawP_DayspecWords {dats : List Dat} (h : DatOk tau [.int .u8, .int .u8, .int .u8, .int .u8, .int .u8] dats) : F_law09_DayspecWords dats = some [.b true] := by
  obtain ⟨a, r, rfl, ha, b, r2, rfl, hb, c, r3, rfl, hc, d, r4, rfl, hd, e, r5, rfl, he, rfl⟩ := h
  exact dayspecWords (wf_u8 ha) (wf_u8 hb) (wf_u8 hd) (wf_u8 he)
end Go.Proofs.YtdpednaafficmaaDoor
