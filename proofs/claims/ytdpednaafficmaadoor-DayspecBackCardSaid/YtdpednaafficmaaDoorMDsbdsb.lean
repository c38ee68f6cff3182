/-
  Days as text: what is printed is read again.
-/
import Derived.Test.YtdpednaafficmaaDoorTdsb
import Derived.Test.YtdpednaafficmaaDoorAx32
namespace Go.Proofs.YtdpednaafficmaaDoor
open Go.Ax Go.Lib
set_option linter.all false
set_option maxHeartbeats 4000000
set_option maxRecDepth 100000
attribute [local congr] cond_cong bind_cong onI_cong onB_cong onS_cong onN_cong onL_cong

/-- One form: printed, checked, read again. -/
noncomputable def fine (k w y : Nat) : Bool :=
  match F_law09_Made [.i (k : Int), .i (w : Int), .i (y : Int)] with
  | some [.i a, .i b, .i c] => (match F_dayspec_Print [.i a, .i b, .i c] with
    | some [.s s, .i e] => decide (e = 0) && (match F_dayform_Check [.i a, .i b, .i c] with
      | some [.i f] => decide (f = 0) && (match F_dayspec_Parse [.s s] with
        | some [.i a', .i b', .i c', .i g] => decide (g = 0) && (decide (a' = a) && (decide (b' = b) && decide (c' = c)))
        | _ => false)
      | _ => false)
    | _ => false)
  | _ => false
theorem fine_of {k w y : Nat} (h : fine k w y = true) : ∃ (a b c : Int) (s : List UInt8), F_law09_Made [.i (k : Int), .i (w : Int), .i (y : Int)] = some [.i a, .i b, .i c] ∧ F_dayspec_Print [.i a, .i b, .i c] = some [.s s, .i 0] ∧ F_dayform_Check [.i a, .i b, .i c] = some [.i 0] ∧ F_dayspec_Parse [.s s] = some [.i a, .i b, .i c, .i 0] := by
  unfold fine at h
  split at h
  · rename_i a b c h1
    split at h
    · rename_i s e h2
      rw [Bool.and_eq_true] at h
      obtain ⟨he, h⟩ := h
      split at h
      · rename_i f h3
        rw [Bool.and_eq_true] at h
        obtain ⟨hf, h⟩ := h
        split at h
        · rename_i a' b' c' g h4
          rw [Bool.and_eq_true, Bool.and_eq_true, Bool.and_eq_true] at h
          obtain ⟨hg, ha, hb, hc⟩ := h
          have he := of_decide_eq_true he
          have hf := of_decide_eq_true hf
          have hg := of_decide_eq_true hg
          have ha := of_decide_eq_true ha
          have hb := of_decide_eq_true hb
          have hc := of_decide_eq_true hc
          subst he hf hg ha hb hc
          exact ⟨_, _, _, _, h1, h2, h3, h4⟩
        · cases h
      · cases h
    · cases h
  · cases h
noncomputable def fineW (k w : Nat) : Bool := (List.range 31).all fun y => fine k w y
theorem fine_0_0 : fineW 0 0 = true := by kernel_rfl
theorem fine_0_1 : fineW 0 1 = true := by kernel_rfl
theorem fine_0_2 : fineW 0 2 = true := by kernel_rfl
theorem fine_0_3 : fineW 0 3 = true := by kernel_rfl
theorem fine_0_4 : fineW 0 4 = true := by kernel_rfl
theorem fine_0_5 : fineW 0 5 = true := by kernel_rfl
theorem fine_0_6 : fineW 0 6 = true := by kernel_rfl
theorem fine_1_0 : fineW 1 0 = true := by kernel_rfl
theorem fine_1_1 : fineW 1 1 = true := by kernel_rfl
theorem fine_1_2 : fineW 1 2 = true := by kernel_rfl
theorem fine_1_3 : fineW 1 3 = true := by kernel_rfl
theorem fine_1_4 : fineW 1 4 = true := by kernel_rfl
theorem fine_1_5 : fineW 1 5 = true := by kernel_rfl
theorem fine_1_6 : fineW 1 6 = true := by kernel_rfl
theorem fine_2_0 : fineW 2 0 = true := by kernel_rfl
theorem fine_2_1 : fineW 2 1 = true := by kernel_rfl
theorem fine_2_2 : fineW 2 2 = true := by kernel_rfl
theorem fine_2_3 : fineW 2 3 = true := by kernel_rfl
theorem fine_2_4 : fineW 2 4 = true := by kernel_rfl
theorem fine_2_5 : fineW 2 5 = true := by kernel_rfl
theorem fine_2_6 : fineW 2 6 = true := by kernel_rfl
theorem fine_3_0 : fineW 3 0 = true := by kernel_rfl
theorem fine_3_1 : fineW 3 1 = true := by kernel_rfl
theorem fine_3_2 : fineW 3 2 = true := by kernel_rfl
theorem fine_3_3 : fineW 3 3 = true := by kernel_rfl
theorem fine_3_4 : fineW 3 4 = true := by kernel_rfl
theorem fine_3_5 : fineW 3 5 = true := by kernel_rfl
theorem fine_3_6 : fineW 3 6 = true := by kernel_rfl
theorem fine_all {k w y : Nat} (hk : k < 4) (hw : w < 7) (hy : y < 31) : fine k w y = true := by
  have h : fineW k w = true := by
    have hk' : k = 0 ∨ k = 1 ∨ k = 2 ∨ k = 3 := by omega
    have hw' : w = 0 ∨ w = 1 ∨ w = 2 ∨ w = 3 ∨ w = 4 ∨ w = 5 ∨ w = 6 := by omega
    rcases hk' with rfl | rfl | rfl | rfl <;> rcases hw' with rfl | rfl | rfl | rfl | rfl | rfl | rfl
    · exact fine_0_0
    · exact fine_0_1
    · exact fine_0_2
    · exact fine_0_3
    · exact fine_0_4
    · exact fine_0_5
    · exact fine_0_6
    · exact fine_1_0
    · exact fine_1_1
    · exact fine_1_2
    · exact fine_1_3
    · exact fine_1_4
    · exact fine_1_5
    · exact fine_1_6
    · exact fine_2_0
    · exact fine_2_1
    · exact fine_2_2
    · exact fine_2_3
    · exact fine_2_4
    · exact fine_2_5
    · exact fine_2_6
    · exact fine_3_0
    · exact fine_3_1
    · exact fine_3_2
    · exact fine_3_3
    · exact fine_3_4
    · exact fine_3_5
    · exact fine_3_6
  exact List.all_eq_true.1 h y (List.mem_range.2 hy)
theorem form_at {k w y : Int} (hk : 0 ≤ k ∧ k ≤ 255) (hw : 0 ≤ w ∧ w ≤ 255) (hy : 0 ≤ y ∧ y ≤ 255) : ∃ (a b c : Int) (s : List UInt8), F_law09_Made [.i k, .i w, .i y] = some [.i a, .i b, .i c] ∧ F_dayspec_Print [.i a, .i b, .i c] = some [.s s, .i 0] ∧ F_dayform_Check [.i a, .i b, .i c] = some [.i 0] ∧ F_dayspec_Parse [.s s] = some [.i a, .i b, .i c, .i 0] := by
  obtain ⟨k', hk1, hk2⟩ : ∃ k' : Nat, Int.tmod k 4 = ((k' : Nat) : Int) ∧ k' < 4 := ⟨(k % 4).toNat, by rw [tmod_nn hk.1]; omega, by omega⟩
  obtain ⟨w', hw1, hw2⟩ : ∃ w' : Nat, Int.tmod w 7 = ((w' : Nat) : Int) ∧ w' < 7 := ⟨(w % 7).toNat, by rw [tmod_nn hw.1]; omega, by omega⟩
  obtain ⟨y', hy1, hy2⟩ : ∃ y' : Nat, Int.tmod y 31 = ((y' : Nat) : Int) ∧ y' < 31 := ⟨(y % 31).toNat, by rw [tmod_nn hy.1]; omega, by omega⟩
  have k3 : Int.tmod ((k' : Nat) : Int) 4 = ((k' : Nat) : Int) := by rw [tmod_nn (by omega)]; omega
  have w3 : Int.tmod ((w' : Nat) : Int) 7 = ((w' : Nat) : Int) := by rw [tmod_nn (by omega)]; omega
  have y3 : Int.tmod ((y' : Nat) : Int) 31 = ((y' : Nat) : Int) := by rw [tmod_nn (by omega)]; omega
  have e : F_law09_Made [.i k, .i w, .i y] = F_law09_Made [.i ((k' : Nat) : Int), .i ((w' : Nat) : Int), .i ((y' : Nat) : Int)] := by
    unfold F_law09_Made
    simp only [onI_c, hk1, hw1, hy1, k3, w3, y3]
  rw [e]
  exact fine_of (fine_all hk2 hw2 hy2)
theorem dworks_at : F_law09_works [] = some [.b true] := rfl
theorem lawP_DayspecBack {dats : List Dat} (h : DatOk tau [.int .u8, .int .u8, .int .u8, .int .u8, .int .u8, .int .u8] dats) : F_law09_DayspecBack dats = some [.b true] := by
  obtain ⟨a, r, rfl, ha, b, r2, rfl, hb, d, r3, rfl, hd, a', r4, rfl, ha', b', r5, rfl, hb', d', r6, rfl, hd', rfl⟩ := h
  obtain ⟨x, y, z, s, p1, p2, p3, p4⟩ := form_at (wf_u8 ha) (wf_u8 hb) (wf_u8 hd)
  obtain ⟨x', y', z', s', q1, q2, q3, q4⟩ := form_at (wf_u8 ha') (wf_u8 hb') (wf_u8 hd')
  clear ha hb hd ha' hb' hd'
  have t5 : ∀ x : Int, decide (x = x) = true := fun x => decide_eq_true rfl
  unfold F_law09_DayspecBack
  by_cases hs : s = s'
  · subst hs
    have hj := p4.symm.trans q4
    injection hj with hj
    injection hj with j1 hj
    injection hj with j2 hj
    injection hj with j3 hj
    injection j1 with j1
    injection j2 with j2
    injection j3 with j3
    subst j1 j2 j3
    have q : (s == s) = true := beq_t rfl
    simp only [onI_c, onS_c, onB_c, onN_c, onL_c, Option.bind_some, Option.map_some, cond_true, cond_false, ↓onI_c, ↓onS_c, ↓onB_c, ↓onN_c, ↓onL_c, ↓Option.bind_some, ↓cond_true, ↓cond_false, decide_eq_true, decide_eq_false, Bool.not_true, Bool.not_false, Int.toNat_natCast, List.length_append, List.length_cons, List.length_nil, List.drop_zero, Nat.zero_add, Nat.add_zero, decT, decF, bneI_t, bneI_f, p1, p2, p3, p4, q1, q, ↓t5, dworks_at, Bool.and_true, Bool.true_and]
  · have q := beq_f hs
    have hne : ¬ (x = x' ∧ y = y' ∧ z = z') := by
      rintro ⟨rfl, rfl, rfl⟩
      have hj := p2.symm.trans q2
      injection hj with hj
      injection hj with j1 hj
      injection j1 with j1
      exact hs j1
    have hd : ((decide (x = x')) && ((decide (y = y')) && ((decide (z = z')) && true))) = false := by
      cases hc : ((decide (x = x')) && ((decide (y = y')) && ((decide (z = z')) && true))) with
      | false => rfl
      | true =>
        rw [Bool.and_eq_true, Bool.and_eq_true, Bool.and_eq_true] at hc
        exact absurd ⟨of_decide_eq_true hc.1, of_decide_eq_true hc.2.1, of_decide_eq_true hc.2.2.1⟩ hne
    simp only [Bool.and_true] at hd
    simp only [onI_c, onS_c, onB_c, onN_c, onL_c, Option.bind_some, Option.map_some, cond_true, cond_false, ↓onI_c, ↓onS_c, ↓onB_c, ↓onN_c, ↓onL_c, ↓Option.bind_some, ↓cond_true, ↓cond_false, decide_eq_true, decide_eq_false, Bool.not_true, Bool.not_false, Int.toNat_natCast, List.length_append, List.length_cons, List.length_nil, List.drop_zero, Nat.zero_add, Nat.add_zero, decT, decF, bneI_t, bneI_f, p1, p2, p3, p4, q1, q2, q, hd, ↓t5, dworks_at, Bool.and_true, Bool.true_and]
end Go.Proofs.YtdpednaafficmaaDoor
