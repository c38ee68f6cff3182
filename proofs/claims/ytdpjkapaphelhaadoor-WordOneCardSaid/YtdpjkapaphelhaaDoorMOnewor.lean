/-
  Words: a string means at most one word of each list.
-/
import Derived.Test.YtdpjkapaphelhaaDoorMMorwor
namespace Go.Proofs.YtdpjkapaphelhaaDoor
open Go.Ax Go.Lib
set_option linter.all false
set_option maxHeartbeats 8000000
set_option maxRecDepth 100000
attribute [local congr] cond_cong bind_cong onI_cong onB_cong onS_cong onN_cong onL_cong

def lowB (s : List UInt8) : Prop := ∀ c ∈ s, 97 ≤ c.toNat ∧ c.toNat ≤ 122
theorem low_small {s : List UInt8} (h : lowB s) : Sm.smallV s = s := by
  unfold Sm.smallV
  conv => rhs; rw [← List.map_id s]
  exact List.map_congr_left fun c hc => by
    have := h c hc
    unfold Sm.low1
    rw [if_neg (by omega)]; rfl
theorem oc_Line {s : List UInt8} (hs : lowB s) (hl : s.length ≤ 12) :
    F_word_Line [.s s] = some [.i 0, .i 8] ∨ (∃ (j : Nat) (x : Int) (w : List UInt8), j < 4 ∧ x = (j : Int) + 1 ∧ asS ([(AV.str (.lit ([114, 117, 108, 101] : List UInt8))), (AV.str (.lit ([122, 111, 110, 101] : List UInt8))), (AV.str (.lit ([108, 105, 110, 107] : List UInt8))), (AV.str (.lit ([115, 104, 105, 102, 116] : List UInt8)))])[j]? = some w ∧ F_word_Line [.s s] = some [.i x, .i 0] ∧ i64 (x - 1) = ((j : Nat) : Int) ∧ 0 < s.length ∧ s.length ≤ w.length ∧ (List.take s.length w == s) = true ∧ F_word_Line [.s (s.take (s.length - 1))] = some [.i x, .i 0]) ∨
    (∃ (j : Nat) (x : Int) (w : List UInt8) (g e : Int), j < 4 ∧ x = (j : Int) + 1 ∧ asS ([(AV.str (.lit ([114, 117, 108, 101] : List UInt8))), (AV.str (.lit ([122, 111, 110, 101] : List UInt8))), (AV.str (.lit ([108, 105, 110, 107] : List UInt8))), (AV.str (.lit ([115, 104, 105, 102, 116] : List UInt8)))])[j]? = some w ∧ F_word_Line [.s s] = some [.i x, .i 0] ∧ i64 (x - 1) = ((j : Nat) : Int) ∧ 0 < s.length ∧ s.length ≤ w.length ∧ (List.take s.length w == s) = true ∧ F_word_Line [.s (s.take (s.length - 1))] = some [.i g, .i e] ∧ e ≠ 0) := by
  rcases one_Line (low_small hs) (low_small (s := s.take (s.length - 1)) (fun c hc => hs c (List.mem_of_mem_take hc))) hl with h | ⟨j, x, g, e, h1, h2, h3, h4, h5, h6, h7, h8⟩
  · exact .inl h
  · have hi : i64 (x - 1) = ((j : Nat) : Int) := by rw [i64_in _ (by omega)]; omega
    have hb : (List.take s.length (wsLine.getD j []) == s) = true := beq_t h6
    by_cases he : e = 0
    · subst he
      rw [h8 rfl] at h7
      exact .inr (.inl ⟨j, x, _, h1, h2, lit_Line h1, h3, hi, h4, h5, hb, h7⟩)
    · exact .inr (.inr ⟨j, x, _, g, e, h1, h2, lit_Line h1, h3, hi, h4, h5, hb, h7, he⟩)
theorem oc_Month {s : List UInt8} (hs : lowB s) (hl : s.length ≤ 12) :
    F_word_Month [.s s] = some [.i 0, .i 8] ∨ (∃ (j : Nat) (x : Int) (w : List UInt8), j < 12 ∧ x = (j : Int) + 1 ∧ asS ([(AV.str (.lit ([106, 97, 110, 117, 97, 114, 121] : List UInt8))), (AV.str (.lit ([102, 101, 98, 114, 117, 97, 114, 121] : List UInt8))), (AV.str (.lit ([109, 97, 114, 99, 104] : List UInt8))), (AV.str (.lit ([97, 112, 114, 105, 108] : List UInt8))), (AV.str (.lit ([109, 97, 121] : List UInt8))), (AV.str (.lit ([106, 117, 110, 101] : List UInt8))), (AV.str (.lit ([106, 117, 108, 121] : List UInt8))), (AV.str (.lit ([97, 117, 103, 117, 115, 116] : List UInt8))), (AV.str (.lit ([115, 101, 112, 116, 101, 109, 98, 101, 114] : List UInt8))), (AV.str (.lit ([111, 99, 116, 111, 98, 101, 114] : List UInt8))), (AV.str (.lit ([110, 111, 118, 101, 109, 98, 101, 114] : List UInt8))), (AV.str (.lit ([100, 101, 99, 101, 109, 98, 101, 114] : List UInt8)))])[j]? = some w ∧ F_word_Month [.s s] = some [.i x, .i 0] ∧ i64 (x - 1) = ((j : Nat) : Int) ∧ 0 < s.length ∧ s.length ≤ w.length ∧ (List.take s.length w == s) = true ∧ F_word_Month [.s (s.take (s.length - 1))] = some [.i x, .i 0]) ∨
    (∃ (j : Nat) (x : Int) (w : List UInt8) (g e : Int), j < 12 ∧ x = (j : Int) + 1 ∧ asS ([(AV.str (.lit ([106, 97, 110, 117, 97, 114, 121] : List UInt8))), (AV.str (.lit ([102, 101, 98, 114, 117, 97, 114, 121] : List UInt8))), (AV.str (.lit ([109, 97, 114, 99, 104] : List UInt8))), (AV.str (.lit ([97, 112, 114, 105, 108] : List UInt8))), (AV.str (.lit ([109, 97, 121] : List UInt8))), (AV.str (.lit ([106, 117, 110, 101] : List UInt8))), (AV.str (.lit ([106, 117, 108, 121] : List UInt8))), (AV.str (.lit ([97, 117, 103, 117, 115, 116] : List UInt8))), (AV.str (.lit ([115, 101, 112, 116, 101, 109, 98, 101, 114] : List UInt8))), (AV.str (.lit ([111, 99, 116, 111, 98, 101, 114] : List UInt8))), (AV.str (.lit ([110, 111, 118, 101, 109, 98, 101, 114] : List UInt8))), (AV.str (.lit ([100, 101, 99, 101, 109, 98, 101, 114] : List UInt8)))])[j]? = some w ∧ F_word_Month [.s s] = some [.i x, .i 0] ∧ i64 (x - 1) = ((j : Nat) : Int) ∧ 0 < s.length ∧ s.length ≤ w.length ∧ (List.take s.length w == s) = true ∧ F_word_Month [.s (s.take (s.length - 1))] = some [.i g, .i e] ∧ e ≠ 0) := by
  rcases one_Month (low_small hs) (low_small (s := s.take (s.length - 1)) (fun c hc => hs c (List.mem_of_mem_take hc))) hl with h | ⟨j, x, g, e, h1, h2, h3, h4, h5, h6, h7, h8⟩
  · exact .inl h
  · have hi : i64 (x - 1) = ((j : Nat) : Int) := by rw [i64_in _ (by omega)]; omega
    have hb : (List.take s.length (wsMonth.getD j []) == s) = true := beq_t h6
    by_cases he : e = 0
    · subst he
      rw [h8 rfl] at h7
      exact .inr (.inl ⟨j, x, _, h1, h2, lit_Month h1, h3, hi, h4, h5, hb, h7⟩)
    · exact .inr (.inr ⟨j, x, _, g, e, h1, h2, lit_Month h1, h3, hi, h4, h5, hb, h7, he⟩)
theorem oc_Week {s : List UInt8} (hs : lowB s) (hl : s.length ≤ 12) :
    F_word_Week [.s s] = some [.i 0, .i 8] ∨ (∃ (j : Nat) (x : Int) (w : List UInt8), j < 7 ∧ x = (j : Int) + 0 ∧ asS ([(AV.str (.lit ([115, 117, 110, 100, 97, 121] : List UInt8))), (AV.str (.lit ([109, 111, 110, 100, 97, 121] : List UInt8))), (AV.str (.lit ([116, 117, 101, 115, 100, 97, 121] : List UInt8))), (AV.str (.lit ([119, 101, 100, 110, 101, 115, 100, 97, 121] : List UInt8))), (AV.str (.lit ([116, 104, 117, 114, 115, 100, 97, 121] : List UInt8))), (AV.str (.lit ([102, 114, 105, 100, 97, 121] : List UInt8))), (AV.str (.lit ([115, 97, 116, 117, 114, 100, 97, 121] : List UInt8)))])[j]? = some w ∧ F_word_Week [.s s] = some [.i x, .i 0] ∧ i64 (x - 0) = ((j : Nat) : Int) ∧ 0 < s.length ∧ s.length ≤ w.length ∧ (List.take s.length w == s) = true ∧ F_word_Week [.s (s.take (s.length - 1))] = some [.i x, .i 0]) ∨
    (∃ (j : Nat) (x : Int) (w : List UInt8) (g e : Int), j < 7 ∧ x = (j : Int) + 0 ∧ asS ([(AV.str (.lit ([115, 117, 110, 100, 97, 121] : List UInt8))), (AV.str (.lit ([109, 111, 110, 100, 97, 121] : List UInt8))), (AV.str (.lit ([116, 117, 101, 115, 100, 97, 121] : List UInt8))), (AV.str (.lit ([119, 101, 100, 110, 101, 115, 100, 97, 121] : List UInt8))), (AV.str (.lit ([116, 104, 117, 114, 115, 100, 97, 121] : List UInt8))), (AV.str (.lit ([102, 114, 105, 100, 97, 121] : List UInt8))), (AV.str (.lit ([115, 97, 116, 117, 114, 100, 97, 121] : List UInt8)))])[j]? = some w ∧ F_word_Week [.s s] = some [.i x, .i 0] ∧ i64 (x - 0) = ((j : Nat) : Int) ∧ 0 < s.length ∧ s.length ≤ w.length ∧ (List.take s.length w == s) = true ∧ F_word_Week [.s (s.take (s.length - 1))] = some [.i g, .i e] ∧ e ≠ 0) := by
  rcases one_Week (low_small hs) (low_small (s := s.take (s.length - 1)) (fun c hc => hs c (List.mem_of_mem_take hc))) hl with h | ⟨j, x, g, e, h1, h2, h3, h4, h5, h6, h7, h8⟩
  · exact .inl h
  · have hi : i64 (x - 0) = ((j : Nat) : Int) := by rw [i64_in _ (by omega)]; omega
    have hb : (List.take s.length (wsWeek.getD j []) == s) = true := beq_t h6
    by_cases he : e = 0
    · subst he
      rw [h8 rfl] at h7
      exact .inr (.inl ⟨j, x, _, h1, h2, lit_Week h1, h3, hi, h4, h5, hb, h7⟩)
    · exact .inr (.inr ⟨j, x, _, g, e, h1, h2, lit_Week h1, h3, hi, h4, h5, hb, h7, he⟩)
theorem oc_To {s : List UInt8} (hs : lowB s) (hl : s.length ≤ 12) :
    F_word_To [.s s] = some [.i 0, .i 8] ∨ (∃ (j : Nat) (x : Int) (w : List UInt8), j < 2 ∧ x = (j : Int) + 1 ∧ asS ([(AV.str (.lit ([111, 110, 108, 121] : List UInt8))), (AV.str (.lit ([109, 97, 120, 105, 109, 117, 109] : List UInt8)))])[j]? = some w ∧ F_word_To [.s s] = some [.i x, .i 0] ∧ i64 (x - 1) = ((j : Nat) : Int) ∧ 0 < s.length ∧ s.length ≤ w.length ∧ (List.take s.length w == s) = true ∧ F_word_To [.s (s.take (s.length - 1))] = some [.i x, .i 0]) ∨
    (∃ (j : Nat) (x : Int) (w : List UInt8) (g e : Int), j < 2 ∧ x = (j : Int) + 1 ∧ asS ([(AV.str (.lit ([111, 110, 108, 121] : List UInt8))), (AV.str (.lit ([109, 97, 120, 105, 109, 117, 109] : List UInt8)))])[j]? = some w ∧ F_word_To [.s s] = some [.i x, .i 0] ∧ i64 (x - 1) = ((j : Nat) : Int) ∧ 0 < s.length ∧ s.length ≤ w.length ∧ (List.take s.length w == s) = true ∧ F_word_To [.s (s.take (s.length - 1))] = some [.i g, .i e] ∧ e ≠ 0) := by
  rcases one_To (low_small hs) (low_small (s := s.take (s.length - 1)) (fun c hc => hs c (List.mem_of_mem_take hc))) hl with h | ⟨j, x, g, e, h1, h2, h3, h4, h5, h6, h7, h8⟩
  · exact .inl h
  · have hi : i64 (x - 1) = ((j : Nat) : Int) := by rw [i64_in _ (by omega)]; omega
    have hb : (List.take s.length (wsTo.getD j []) == s) = true := beq_t h6
    by_cases he : e = 0
    · subst he
      rw [h8 rfl] at h7
      exact .inr (.inl ⟨j, x, _, h1, h2, lit_To h1, h3, hi, h4, h5, hb, h7⟩)
    · exact .inr (.inr ⟨j, x, _, g, e, h1, h2, lit_To h1, h3, hi, h4, h5, hb, h7, he⟩)
theorem one_tail {ln bn bc : Nat} {ll cells : List AV} {s : List UInt8} (hb : Ax.bytesOf (List.take bn cells) = some s) (hn : bn ≤ cells.length) (hs : lowB s) (hl : s.length ≤ 12) : iter F_law08_WordOne_L0 [.n ln, .l ll, .n bn, .n bc, .i ((ln : Nat) : Int), .i ((ln : Nat) : Int), .l cells] = some [.b true] := by
  refine iter_end ?_
  have e1 : 0 < s.length → i64 (((s.length : Nat) : Int) - 1) = ((s.length - 1 : Nat) : Int) := fun h => by rw [i64_in _ (by omega)]; omega
  have cL := oc_Line hs hl
  have cM := oc_Month hs hl
  have cW := oc_Week hs hl
  have cT := oc_To hs hl
  unfold F_law08_WordOne_L0
  clear hs
  have fin : ∀ {r : Option (List Dat ⊕ List Dat)}, r = some (.inr [.b true]) → r = some (.inr [.b true]) := fun h => h
  rcases cL with hL | ⟨jL, xL, wL, nL, yL, lL, hL, iL, pL, mL, bL, tL⟩ | ⟨jL, xL, wL, gL, fL, nL, yL, lL, hL, iL, pL, mL, bL, tL, zL⟩
  · rcases cM with hM | ⟨jM, xM, wM, nM, yM, lM, hM, iM, pM, mM, bM, tM⟩ | ⟨jM, xM, wM, gM, fM, nM, yM, lM, hM, iM, pM, mM, bM, tM, zM⟩
    · rcases cW with hW | ⟨jW, xW, wW, nW, yW, lW, hW, iW, pW, mW, bW, tW⟩ | ⟨jW, xW, wW, gW, fW, nW, yW, lW, hW, iW, pW, mW, bW, tW, zW⟩
      · rcases cT with hT | ⟨jT, xT, wT, nT, yT, lT, hT, iT, pT, mT, bT, tT⟩ | ⟨jT, xT, wT, gT, fT, nT, yT, lT, hT, iT, pT, mT, bT, tT, zT⟩
        · simp (disch := omega) only [onI_c, onS_c, onB_c, onN_c, onL_c, Option.bind_some, Option.map_some, cond_true, cond_false, ↓onI_c, ↓onS_c, ↓onB_c, ↓onN_c, ↓onL_c, ↓Option.bind_some, ↓cond_true, ↓cond_false, decide_eq_true, decide_eq_false, Bool.not_true, Bool.not_false, Int.toNat_natCast, List.length_append, List.length_cons, List.length_nil, List.drop_zero, Nat.zero_add, Nat.add_zero, decT, decF, bneI_t, bneI_f, hb, hL, hM, hW, hT, wworks_at]
        · have q1 := e1 pT
          simp (disch := omega) only [onI_c, onS_c, onB_c, onN_c, onL_c, Option.bind_some, Option.map_some, cond_true, cond_false, ↓onI_c, ↓onS_c, ↓onB_c, ↓onN_c, ↓onL_c, ↓Option.bind_some, ↓cond_true, ↓cond_false, decide_eq_true, decide_eq_false, Bool.not_true, Bool.not_false, Int.toNat_natCast, List.length_append, List.length_cons, List.length_nil, List.drop_zero, Nat.zero_add, Nat.add_zero, decT, decF, bneI_t, bneI_f, hb, hL, hM, hW, hT, lT, iT, bT, tT, q1, wworks_at]
        · have q1 := e1 pT
          simp (disch := omega) only [onI_c, onS_c, onB_c, onN_c, onL_c, Option.bind_some, Option.map_some, cond_true, cond_false, ↓onI_c, ↓onS_c, ↓onB_c, ↓onN_c, ↓onL_c, ↓Option.bind_some, ↓cond_true, ↓cond_false, decide_eq_true, decide_eq_false, Bool.not_true, Bool.not_false, Int.toNat_natCast, List.length_append, List.length_cons, List.length_nil, List.drop_zero, Nat.zero_add, Nat.add_zero, decT, decF, bneI_t, bneI_f, hb, hL, hM, hW, hT, lT, iT, bT, tT, q1, wworks_at]
      · rcases cT with hT | ⟨jT, xT, wT, nT, yT, lT, hT, iT, pT, mT, bT, tT⟩ | ⟨jT, xT, wT, gT, fT, nT, yT, lT, hT, iT, pT, mT, bT, tT, zT⟩
        · have q1 := e1 pW
          simp (disch := omega) only [onI_c, onS_c, onB_c, onN_c, onL_c, Option.bind_some, Option.map_some, cond_true, cond_false, ↓onI_c, ↓onS_c, ↓onB_c, ↓onN_c, ↓onL_c, ↓Option.bind_some, ↓cond_true, ↓cond_false, decide_eq_true, decide_eq_false, Bool.not_true, Bool.not_false, Int.toNat_natCast, List.length_append, List.length_cons, List.length_nil, List.drop_zero, Nat.zero_add, Nat.add_zero, decT, decF, bneI_t, bneI_f, hb, hL, hM, hW, hT, lW, iW, bW, tW, q1, wworks_at]
        · have q1 := e1 pW
          simp (disch := omega) only [onI_c, onS_c, onB_c, onN_c, onL_c, Option.bind_some, Option.map_some, cond_true, cond_false, ↓onI_c, ↓onS_c, ↓onB_c, ↓onN_c, ↓onL_c, ↓Option.bind_some, ↓cond_true, ↓cond_false, decide_eq_true, decide_eq_false, Bool.not_true, Bool.not_false, Int.toNat_natCast, List.length_append, List.length_cons, List.length_nil, List.drop_zero, Nat.zero_add, Nat.add_zero, decT, decF, bneI_t, bneI_f, hb, hL, hM, hW, hT, lW, iW, bW, tW, lT, iT, bT, tT, q1, wworks_at]
        · have q1 := e1 pW
          simp (disch := omega) only [onI_c, onS_c, onB_c, onN_c, onL_c, Option.bind_some, Option.map_some, cond_true, cond_false, ↓onI_c, ↓onS_c, ↓onB_c, ↓onN_c, ↓onL_c, ↓Option.bind_some, ↓cond_true, ↓cond_false, decide_eq_true, decide_eq_false, Bool.not_true, Bool.not_false, Int.toNat_natCast, List.length_append, List.length_cons, List.length_nil, List.drop_zero, Nat.zero_add, Nat.add_zero, decT, decF, bneI_t, bneI_f, hb, hL, hM, hW, hT, lW, iW, bW, tW, lT, iT, bT, tT, q1, wworks_at]
      · rcases cT with hT | ⟨jT, xT, wT, nT, yT, lT, hT, iT, pT, mT, bT, tT⟩ | ⟨jT, xT, wT, gT, fT, nT, yT, lT, hT, iT, pT, mT, bT, tT, zT⟩
        · have q1 := e1 pW
          simp (disch := omega) only [onI_c, onS_c, onB_c, onN_c, onL_c, Option.bind_some, Option.map_some, cond_true, cond_false, ↓onI_c, ↓onS_c, ↓onB_c, ↓onN_c, ↓onL_c, ↓Option.bind_some, ↓cond_true, ↓cond_false, decide_eq_true, decide_eq_false, Bool.not_true, Bool.not_false, Int.toNat_natCast, List.length_append, List.length_cons, List.length_nil, List.drop_zero, Nat.zero_add, Nat.add_zero, decT, decF, bneI_t, bneI_f, hb, hL, hM, hW, hT, lW, iW, bW, tW, q1, wworks_at]
        · have q1 := e1 pW
          simp (disch := omega) only [onI_c, onS_c, onB_c, onN_c, onL_c, Option.bind_some, Option.map_some, cond_true, cond_false, ↓onI_c, ↓onS_c, ↓onB_c, ↓onN_c, ↓onL_c, ↓Option.bind_some, ↓cond_true, ↓cond_false, decide_eq_true, decide_eq_false, Bool.not_true, Bool.not_false, Int.toNat_natCast, List.length_append, List.length_cons, List.length_nil, List.drop_zero, Nat.zero_add, Nat.add_zero, decT, decF, bneI_t, bneI_f, hb, hL, hM, hW, hT, lW, iW, bW, tW, lT, iT, bT, tT, q1, wworks_at]
        · have q1 := e1 pW
          simp (disch := omega) only [onI_c, onS_c, onB_c, onN_c, onL_c, Option.bind_some, Option.map_some, cond_true, cond_false, ↓onI_c, ↓onS_c, ↓onB_c, ↓onN_c, ↓onL_c, ↓Option.bind_some, ↓cond_true, ↓cond_false, decide_eq_true, decide_eq_false, Bool.not_true, Bool.not_false, Int.toNat_natCast, List.length_append, List.length_cons, List.length_nil, List.drop_zero, Nat.zero_add, Nat.add_zero, decT, decF, bneI_t, bneI_f, hb, hL, hM, hW, hT, lW, iW, bW, tW, lT, iT, bT, tT, q1, wworks_at]
    · rcases cW with hW | ⟨jW, xW, wW, nW, yW, lW, hW, iW, pW, mW, bW, tW⟩ | ⟨jW, xW, wW, gW, fW, nW, yW, lW, hW, iW, pW, mW, bW, tW, zW⟩
      · rcases cT with hT | ⟨jT, xT, wT, nT, yT, lT, hT, iT, pT, mT, bT, tT⟩ | ⟨jT, xT, wT, gT, fT, nT, yT, lT, hT, iT, pT, mT, bT, tT, zT⟩
        · have q1 := e1 pM
          simp (disch := omega) only [onI_c, onS_c, onB_c, onN_c, onL_c, Option.bind_some, Option.map_some, cond_true, cond_false, ↓onI_c, ↓onS_c, ↓onB_c, ↓onN_c, ↓onL_c, ↓Option.bind_some, ↓cond_true, ↓cond_false, decide_eq_true, decide_eq_false, Bool.not_true, Bool.not_false, Int.toNat_natCast, List.length_append, List.length_cons, List.length_nil, List.drop_zero, Nat.zero_add, Nat.add_zero, decT, decF, bneI_t, bneI_f, hb, hL, hM, hW, hT, lM, iM, bM, tM, q1, wworks_at]
        · have q1 := e1 pM
          simp (disch := omega) only [onI_c, onS_c, onB_c, onN_c, onL_c, Option.bind_some, Option.map_some, cond_true, cond_false, ↓onI_c, ↓onS_c, ↓onB_c, ↓onN_c, ↓onL_c, ↓Option.bind_some, ↓cond_true, ↓cond_false, decide_eq_true, decide_eq_false, Bool.not_true, Bool.not_false, Int.toNat_natCast, List.length_append, List.length_cons, List.length_nil, List.drop_zero, Nat.zero_add, Nat.add_zero, decT, decF, bneI_t, bneI_f, hb, hL, hM, hW, hT, lM, iM, bM, tM, lT, iT, bT, tT, q1, wworks_at]
        · have q1 := e1 pM
          simp (disch := omega) only [onI_c, onS_c, onB_c, onN_c, onL_c, Option.bind_some, Option.map_some, cond_true, cond_false, ↓onI_c, ↓onS_c, ↓onB_c, ↓onN_c, ↓onL_c, ↓Option.bind_some, ↓cond_true, ↓cond_false, decide_eq_true, decide_eq_false, Bool.not_true, Bool.not_false, Int.toNat_natCast, List.length_append, List.length_cons, List.length_nil, List.drop_zero, Nat.zero_add, Nat.add_zero, decT, decF, bneI_t, bneI_f, hb, hL, hM, hW, hT, lM, iM, bM, tM, lT, iT, bT, tT, q1, wworks_at]
      · rcases cT with hT | ⟨jT, xT, wT, nT, yT, lT, hT, iT, pT, mT, bT, tT⟩ | ⟨jT, xT, wT, gT, fT, nT, yT, lT, hT, iT, pT, mT, bT, tT, zT⟩
        · have q1 := e1 pM
          simp (disch := omega) only [onI_c, onS_c, onB_c, onN_c, onL_c, Option.bind_some, Option.map_some, cond_true, cond_false, ↓onI_c, ↓onS_c, ↓onB_c, ↓onN_c, ↓onL_c, ↓Option.bind_some, ↓cond_true, ↓cond_false, decide_eq_true, decide_eq_false, Bool.not_true, Bool.not_false, Int.toNat_natCast, List.length_append, List.length_cons, List.length_nil, List.drop_zero, Nat.zero_add, Nat.add_zero, decT, decF, bneI_t, bneI_f, hb, hL, hM, hW, hT, lM, iM, bM, tM, lW, iW, bW, tW, q1, wworks_at]
        · have q1 := e1 pM
          simp (disch := omega) only [onI_c, onS_c, onB_c, onN_c, onL_c, Option.bind_some, Option.map_some, cond_true, cond_false, ↓onI_c, ↓onS_c, ↓onB_c, ↓onN_c, ↓onL_c, ↓Option.bind_some, ↓cond_true, ↓cond_false, decide_eq_true, decide_eq_false, Bool.not_true, Bool.not_false, Int.toNat_natCast, List.length_append, List.length_cons, List.length_nil, List.drop_zero, Nat.zero_add, Nat.add_zero, decT, decF, bneI_t, bneI_f, hb, hL, hM, hW, hT, lM, iM, bM, tM, lW, iW, bW, tW, lT, iT, bT, tT, q1, wworks_at]
        · have q1 := e1 pM
          simp (disch := omega) only [onI_c, onS_c, onB_c, onN_c, onL_c, Option.bind_some, Option.map_some, cond_true, cond_false, ↓onI_c, ↓onS_c, ↓onB_c, ↓onN_c, ↓onL_c, ↓Option.bind_some, ↓cond_true, ↓cond_false, decide_eq_true, decide_eq_false, Bool.not_true, Bool.not_false, Int.toNat_natCast, List.length_append, List.length_cons, List.length_nil, List.drop_zero, Nat.zero_add, Nat.add_zero, decT, decF, bneI_t, bneI_f, hb, hL, hM, hW, hT, lM, iM, bM, tM, lW, iW, bW, tW, lT, iT, bT, tT, q1, wworks_at]
      · rcases cT with hT | ⟨jT, xT, wT, nT, yT, lT, hT, iT, pT, mT, bT, tT⟩ | ⟨jT, xT, wT, gT, fT, nT, yT, lT, hT, iT, pT, mT, bT, tT, zT⟩
        · have q1 := e1 pM
          simp (disch := omega) only [onI_c, onS_c, onB_c, onN_c, onL_c, Option.bind_some, Option.map_some, cond_true, cond_false, ↓onI_c, ↓onS_c, ↓onB_c, ↓onN_c, ↓onL_c, ↓Option.bind_some, ↓cond_true, ↓cond_false, decide_eq_true, decide_eq_false, Bool.not_true, Bool.not_false, Int.toNat_natCast, List.length_append, List.length_cons, List.length_nil, List.drop_zero, Nat.zero_add, Nat.add_zero, decT, decF, bneI_t, bneI_f, hb, hL, hM, hW, hT, lM, iM, bM, tM, lW, iW, bW, tW, q1, wworks_at]
        · have q1 := e1 pM
          simp (disch := omega) only [onI_c, onS_c, onB_c, onN_c, onL_c, Option.bind_some, Option.map_some, cond_true, cond_false, ↓onI_c, ↓onS_c, ↓onB_c, ↓onN_c, ↓onL_c, ↓Option.bind_some, ↓cond_true, ↓cond_false, decide_eq_true, decide_eq_false, Bool.not_true, Bool.not_false, Int.toNat_natCast, List.length_append, List.length_cons, List.length_nil, List.drop_zero, Nat.zero_add, Nat.add_zero, decT, decF, bneI_t, bneI_f, hb, hL, hM, hW, hT, lM, iM, bM, tM, lW, iW, bW, tW, lT, iT, bT, tT, q1, wworks_at]
        · have q1 := e1 pM
          simp (disch := omega) only [onI_c, onS_c, onB_c, onN_c, onL_c, Option.bind_some, Option.map_some, cond_true, cond_false, ↓onI_c, ↓onS_c, ↓onB_c, ↓onN_c, ↓onL_c, ↓Option.bind_some, ↓cond_true, ↓cond_false, decide_eq_true, decide_eq_false, Bool.not_true, Bool.not_false, Int.toNat_natCast, List.length_append, List.length_cons, List.length_nil, List.drop_zero, Nat.zero_add, Nat.add_zero, decT, decF, bneI_t, bneI_f, hb, hL, hM, hW, hT, lM, iM, bM, tM, lW, iW, bW, tW, lT, iT, bT, tT, q1, wworks_at]
    · rcases cW with hW | ⟨jW, xW, wW, nW, yW, lW, hW, iW, pW, mW, bW, tW⟩ | ⟨jW, xW, wW, gW, fW, nW, yW, lW, hW, iW, pW, mW, bW, tW, zW⟩
      · rcases cT with hT | ⟨jT, xT, wT, nT, yT, lT, hT, iT, pT, mT, bT, tT⟩ | ⟨jT, xT, wT, gT, fT, nT, yT, lT, hT, iT, pT, mT, bT, tT, zT⟩
        · have q1 := e1 pM
          simp (disch := omega) only [onI_c, onS_c, onB_c, onN_c, onL_c, Option.bind_some, Option.map_some, cond_true, cond_false, ↓onI_c, ↓onS_c, ↓onB_c, ↓onN_c, ↓onL_c, ↓Option.bind_some, ↓cond_true, ↓cond_false, decide_eq_true, decide_eq_false, Bool.not_true, Bool.not_false, Int.toNat_natCast, List.length_append, List.length_cons, List.length_nil, List.drop_zero, Nat.zero_add, Nat.add_zero, decT, decF, bneI_t, bneI_f, hb, hL, hM, hW, hT, lM, iM, bM, tM, q1, wworks_at]
        · have q1 := e1 pM
          simp (disch := omega) only [onI_c, onS_c, onB_c, onN_c, onL_c, Option.bind_some, Option.map_some, cond_true, cond_false, ↓onI_c, ↓onS_c, ↓onB_c, ↓onN_c, ↓onL_c, ↓Option.bind_some, ↓cond_true, ↓cond_false, decide_eq_true, decide_eq_false, Bool.not_true, Bool.not_false, Int.toNat_natCast, List.length_append, List.length_cons, List.length_nil, List.drop_zero, Nat.zero_add, Nat.add_zero, decT, decF, bneI_t, bneI_f, hb, hL, hM, hW, hT, lM, iM, bM, tM, lT, iT, bT, tT, q1, wworks_at]
        · have q1 := e1 pM
          simp (disch := omega) only [onI_c, onS_c, onB_c, onN_c, onL_c, Option.bind_some, Option.map_some, cond_true, cond_false, ↓onI_c, ↓onS_c, ↓onB_c, ↓onN_c, ↓onL_c, ↓Option.bind_some, ↓cond_true, ↓cond_false, decide_eq_true, decide_eq_false, Bool.not_true, Bool.not_false, Int.toNat_natCast, List.length_append, List.length_cons, List.length_nil, List.drop_zero, Nat.zero_add, Nat.add_zero, decT, decF, bneI_t, bneI_f, hb, hL, hM, hW, hT, lM, iM, bM, tM, lT, iT, bT, tT, q1, wworks_at]
      · rcases cT with hT | ⟨jT, xT, wT, nT, yT, lT, hT, iT, pT, mT, bT, tT⟩ | ⟨jT, xT, wT, gT, fT, nT, yT, lT, hT, iT, pT, mT, bT, tT, zT⟩
        · have q1 := e1 pM
          simp (disch := omega) only [onI_c, onS_c, onB_c, onN_c, onL_c, Option.bind_some, Option.map_some, cond_true, cond_false, ↓onI_c, ↓onS_c, ↓onB_c, ↓onN_c, ↓onL_c, ↓Option.bind_some, ↓cond_true, ↓cond_false, decide_eq_true, decide_eq_false, Bool.not_true, Bool.not_false, Int.toNat_natCast, List.length_append, List.length_cons, List.length_nil, List.drop_zero, Nat.zero_add, Nat.add_zero, decT, decF, bneI_t, bneI_f, hb, hL, hM, hW, hT, lM, iM, bM, tM, lW, iW, bW, tW, q1, wworks_at]
        · have q1 := e1 pM
          simp (disch := omega) only [onI_c, onS_c, onB_c, onN_c, onL_c, Option.bind_some, Option.map_some, cond_true, cond_false, ↓onI_c, ↓onS_c, ↓onB_c, ↓onN_c, ↓onL_c, ↓Option.bind_some, ↓cond_true, ↓cond_false, decide_eq_true, decide_eq_false, Bool.not_true, Bool.not_false, Int.toNat_natCast, List.length_append, List.length_cons, List.length_nil, List.drop_zero, Nat.zero_add, Nat.add_zero, decT, decF, bneI_t, bneI_f, hb, hL, hM, hW, hT, lM, iM, bM, tM, lW, iW, bW, tW, lT, iT, bT, tT, q1, wworks_at]
        · have q1 := e1 pM
          simp (disch := omega) only [onI_c, onS_c, onB_c, onN_c, onL_c, Option.bind_some, Option.map_some, cond_true, cond_false, ↓onI_c, ↓onS_c, ↓onB_c, ↓onN_c, ↓onL_c, ↓Option.bind_some, ↓cond_true, ↓cond_false, decide_eq_true, decide_eq_false, Bool.not_true, Bool.not_false, Int.toNat_natCast, List.length_append, List.length_cons, List.length_nil, List.drop_zero, Nat.zero_add, Nat.add_zero, decT, decF, bneI_t, bneI_f, hb, hL, hM, hW, hT, lM, iM, bM, tM, lW, iW, bW, tW, lT, iT, bT, tT, q1, wworks_at]
      · rcases cT with hT | ⟨jT, xT, wT, nT, yT, lT, hT, iT, pT, mT, bT, tT⟩ | ⟨jT, xT, wT, gT, fT, nT, yT, lT, hT, iT, pT, mT, bT, tT, zT⟩
        · have q1 := e1 pM
          simp (disch := omega) only [onI_c, onS_c, onB_c, onN_c, onL_c, Option.bind_some, Option.map_some, cond_true, cond_false, ↓onI_c, ↓onS_c, ↓onB_c, ↓onN_c, ↓onL_c, ↓Option.bind_some, ↓cond_true, ↓cond_false, decide_eq_true, decide_eq_false, Bool.not_true, Bool.not_false, Int.toNat_natCast, List.length_append, List.length_cons, List.length_nil, List.drop_zero, Nat.zero_add, Nat.add_zero, decT, decF, bneI_t, bneI_f, hb, hL, hM, hW, hT, lM, iM, bM, tM, lW, iW, bW, tW, q1, wworks_at]
        · have q1 := e1 pM
          simp (disch := omega) only [onI_c, onS_c, onB_c, onN_c, onL_c, Option.bind_some, Option.map_some, cond_true, cond_false, ↓onI_c, ↓onS_c, ↓onB_c, ↓onN_c, ↓onL_c, ↓Option.bind_some, ↓cond_true, ↓cond_false, decide_eq_true, decide_eq_false, Bool.not_true, Bool.not_false, Int.toNat_natCast, List.length_append, List.length_cons, List.length_nil, List.drop_zero, Nat.zero_add, Nat.add_zero, decT, decF, bneI_t, bneI_f, hb, hL, hM, hW, hT, lM, iM, bM, tM, lW, iW, bW, tW, lT, iT, bT, tT, q1, wworks_at]
        · have q1 := e1 pM
          simp (disch := omega) only [onI_c, onS_c, onB_c, onN_c, onL_c, Option.bind_some, Option.map_some, cond_true, cond_false, ↓onI_c, ↓onS_c, ↓onB_c, ↓onN_c, ↓onL_c, ↓Option.bind_some, ↓cond_true, ↓cond_false, decide_eq_true, decide_eq_false, Bool.not_true, Bool.not_false, Int.toNat_natCast, List.length_append, List.length_cons, List.length_nil, List.drop_zero, Nat.zero_add, Nat.add_zero, decT, decF, bneI_t, bneI_f, hb, hL, hM, hW, hT, lM, iM, bM, tM, lW, iW, bW, tW, lT, iT, bT, tT, q1, wworks_at]
  · rcases cM with hM | ⟨jM, xM, wM, nM, yM, lM, hM, iM, pM, mM, bM, tM⟩ | ⟨jM, xM, wM, gM, fM, nM, yM, lM, hM, iM, pM, mM, bM, tM, zM⟩
    · rcases cW with hW | ⟨jW, xW, wW, nW, yW, lW, hW, iW, pW, mW, bW, tW⟩ | ⟨jW, xW, wW, gW, fW, nW, yW, lW, hW, iW, pW, mW, bW, tW, zW⟩
      · rcases cT with hT | ⟨jT, xT, wT, nT, yT, lT, hT, iT, pT, mT, bT, tT⟩ | ⟨jT, xT, wT, gT, fT, nT, yT, lT, hT, iT, pT, mT, bT, tT, zT⟩
        · have q1 := e1 pL
          simp (disch := omega) only [onI_c, onS_c, onB_c, onN_c, onL_c, Option.bind_some, Option.map_some, cond_true, cond_false, ↓onI_c, ↓onS_c, ↓onB_c, ↓onN_c, ↓onL_c, ↓Option.bind_some, ↓cond_true, ↓cond_false, decide_eq_true, decide_eq_false, Bool.not_true, Bool.not_false, Int.toNat_natCast, List.length_append, List.length_cons, List.length_nil, List.drop_zero, Nat.zero_add, Nat.add_zero, decT, decF, bneI_t, bneI_f, hb, hL, hM, hW, hT, lL, iL, bL, tL, q1, wworks_at]
        · have q1 := e1 pL
          simp (disch := omega) only [onI_c, onS_c, onB_c, onN_c, onL_c, Option.bind_some, Option.map_some, cond_true, cond_false, ↓onI_c, ↓onS_c, ↓onB_c, ↓onN_c, ↓onL_c, ↓Option.bind_some, ↓cond_true, ↓cond_false, decide_eq_true, decide_eq_false, Bool.not_true, Bool.not_false, Int.toNat_natCast, List.length_append, List.length_cons, List.length_nil, List.drop_zero, Nat.zero_add, Nat.add_zero, decT, decF, bneI_t, bneI_f, hb, hL, hM, hW, hT, lL, iL, bL, tL, lT, iT, bT, tT, q1, wworks_at]
        · have q1 := e1 pL
          simp (disch := omega) only [onI_c, onS_c, onB_c, onN_c, onL_c, Option.bind_some, Option.map_some, cond_true, cond_false, ↓onI_c, ↓onS_c, ↓onB_c, ↓onN_c, ↓onL_c, ↓Option.bind_some, ↓cond_true, ↓cond_false, decide_eq_true, decide_eq_false, Bool.not_true, Bool.not_false, Int.toNat_natCast, List.length_append, List.length_cons, List.length_nil, List.drop_zero, Nat.zero_add, Nat.add_zero, decT, decF, bneI_t, bneI_f, hb, hL, hM, hW, hT, lL, iL, bL, tL, lT, iT, bT, tT, q1, wworks_at]
      · rcases cT with hT | ⟨jT, xT, wT, nT, yT, lT, hT, iT, pT, mT, bT, tT⟩ | ⟨jT, xT, wT, gT, fT, nT, yT, lT, hT, iT, pT, mT, bT, tT, zT⟩
        · have q1 := e1 pL
          simp (disch := omega) only [onI_c, onS_c, onB_c, onN_c, onL_c, Option.bind_some, Option.map_some, cond_true, cond_false, ↓onI_c, ↓onS_c, ↓onB_c, ↓onN_c, ↓onL_c, ↓Option.bind_some, ↓cond_true, ↓cond_false, decide_eq_true, decide_eq_false, Bool.not_true, Bool.not_false, Int.toNat_natCast, List.length_append, List.length_cons, List.length_nil, List.drop_zero, Nat.zero_add, Nat.add_zero, decT, decF, bneI_t, bneI_f, hb, hL, hM, hW, hT, lL, iL, bL, tL, lW, iW, bW, tW, q1, wworks_at]
        · have q1 := e1 pL
          simp (disch := omega) only [onI_c, onS_c, onB_c, onN_c, onL_c, Option.bind_some, Option.map_some, cond_true, cond_false, ↓onI_c, ↓onS_c, ↓onB_c, ↓onN_c, ↓onL_c, ↓Option.bind_some, ↓cond_true, ↓cond_false, decide_eq_true, decide_eq_false, Bool.not_true, Bool.not_false, Int.toNat_natCast, List.length_append, List.length_cons, List.length_nil, List.drop_zero, Nat.zero_add, Nat.add_zero, decT, decF, bneI_t, bneI_f, hb, hL, hM, hW, hT, lL, iL, bL, tL, lW, iW, bW, tW, lT, iT, bT, tT, q1, wworks_at]
        · have q1 := e1 pL
          simp (disch := omega) only [onI_c, onS_c, onB_c, onN_c, onL_c, Option.bind_some, Option.map_some, cond_true, cond_false, ↓onI_c, ↓onS_c, ↓onB_c, ↓onN_c, ↓onL_c, ↓Option.bind_some, ↓cond_true, ↓cond_false, decide_eq_true, decide_eq_false, Bool.not_true, Bool.not_false, Int.toNat_natCast, List.length_append, List.length_cons, List.length_nil, List.drop_zero, Nat.zero_add, Nat.add_zero, decT, decF, bneI_t, bneI_f, hb, hL, hM, hW, hT, lL, iL, bL, tL, lW, iW, bW, tW, lT, iT, bT, tT, q1, wworks_at]
      · rcases cT with hT | ⟨jT, xT, wT, nT, yT, lT, hT, iT, pT, mT, bT, tT⟩ | ⟨jT, xT, wT, gT, fT, nT, yT, lT, hT, iT, pT, mT, bT, tT, zT⟩
        · have q1 := e1 pL
          simp (disch := omega) only [onI_c, onS_c, onB_c, onN_c, onL_c, Option.bind_some, Option.map_some, cond_true, cond_false, ↓onI_c, ↓onS_c, ↓onB_c, ↓onN_c, ↓onL_c, ↓Option.bind_some, ↓cond_true, ↓cond_false, decide_eq_true, decide_eq_false, Bool.not_true, Bool.not_false, Int.toNat_natCast, List.length_append, List.length_cons, List.length_nil, List.drop_zero, Nat.zero_add, Nat.add_zero, decT, decF, bneI_t, bneI_f, hb, hL, hM, hW, hT, lL, iL, bL, tL, lW, iW, bW, tW, q1, wworks_at]
        · have q1 := e1 pL
          simp (disch := omega) only [onI_c, onS_c, onB_c, onN_c, onL_c, Option.bind_some, Option.map_some, cond_true, cond_false, ↓onI_c, ↓onS_c, ↓onB_c, ↓onN_c, ↓onL_c, ↓Option.bind_some, ↓cond_true, ↓cond_false, decide_eq_true, decide_eq_false, Bool.not_true, Bool.not_false, Int.toNat_natCast, List.length_append, List.length_cons, List.length_nil, List.drop_zero, Nat.zero_add, Nat.add_zero, decT, decF, bneI_t, bneI_f, hb, hL, hM, hW, hT, lL, iL, bL, tL, lW, iW, bW, tW, lT, iT, bT, tT, q1, wworks_at]
        · have q1 := e1 pL
          simp (disch := omega) only [onI_c, onS_c, onB_c, onN_c, onL_c, Option.bind_some, Option.map_some, cond_true, cond_false, ↓onI_c, ↓onS_c, ↓onB_c, ↓onN_c, ↓onL_c, ↓Option.bind_some, ↓cond_true, ↓cond_false, decide_eq_true, decide_eq_false, Bool.not_true, Bool.not_false, Int.toNat_natCast, List.length_append, List.length_cons, List.length_nil, List.drop_zero, Nat.zero_add, Nat.add_zero, decT, decF, bneI_t, bneI_f, hb, hL, hM, hW, hT, lL, iL, bL, tL, lW, iW, bW, tW, lT, iT, bT, tT, q1, wworks_at]
    · rcases cW with hW | ⟨jW, xW, wW, nW, yW, lW, hW, iW, pW, mW, bW, tW⟩ | ⟨jW, xW, wW, gW, fW, nW, yW, lW, hW, iW, pW, mW, bW, tW, zW⟩
      · rcases cT with hT | ⟨jT, xT, wT, nT, yT, lT, hT, iT, pT, mT, bT, tT⟩ | ⟨jT, xT, wT, gT, fT, nT, yT, lT, hT, iT, pT, mT, bT, tT, zT⟩
        · have q1 := e1 pL
          simp (disch := omega) only [onI_c, onS_c, onB_c, onN_c, onL_c, Option.bind_some, Option.map_some, cond_true, cond_false, ↓onI_c, ↓onS_c, ↓onB_c, ↓onN_c, ↓onL_c, ↓Option.bind_some, ↓cond_true, ↓cond_false, decide_eq_true, decide_eq_false, Bool.not_true, Bool.not_false, Int.toNat_natCast, List.length_append, List.length_cons, List.length_nil, List.drop_zero, Nat.zero_add, Nat.add_zero, decT, decF, bneI_t, bneI_f, hb, hL, hM, hW, hT, lL, iL, bL, tL, lM, iM, bM, tM, q1, wworks_at]
        · have q1 := e1 pL
          simp (disch := omega) only [onI_c, onS_c, onB_c, onN_c, onL_c, Option.bind_some, Option.map_some, cond_true, cond_false, ↓onI_c, ↓onS_c, ↓onB_c, ↓onN_c, ↓onL_c, ↓Option.bind_some, ↓cond_true, ↓cond_false, decide_eq_true, decide_eq_false, Bool.not_true, Bool.not_false, Int.toNat_natCast, List.length_append, List.length_cons, List.length_nil, List.drop_zero, Nat.zero_add, Nat.add_zero, decT, decF, bneI_t, bneI_f, hb, hL, hM, hW, hT, lL, iL, bL, tL, lM, iM, bM, tM, lT, iT, bT, tT, q1, wworks_at]
        · have q1 := e1 pL
          simp (disch := omega) only [onI_c, onS_c, onB_c, onN_c, onL_c, Option.bind_some, Option.map_some, cond_true, cond_false, ↓onI_c, ↓onS_c, ↓onB_c, ↓onN_c, ↓onL_c, ↓Option.bind_some, ↓cond_true, ↓cond_false, decide_eq_true, decide_eq_false, Bool.not_true, Bool.not_false, Int.toNat_natCast, List.length_append, List.length_cons, List.length_nil, List.drop_zero, Nat.zero_add, Nat.add_zero, decT, decF, bneI_t, bneI_f, hb, hL, hM, hW, hT, lL, iL, bL, tL, lM, iM, bM, tM, lT, iT, bT, tT, q1, wworks_at]
      · rcases cT with hT | ⟨jT, xT, wT, nT, yT, lT, hT, iT, pT, mT, bT, tT⟩ | ⟨jT, xT, wT, gT, fT, nT, yT, lT, hT, iT, pT, mT, bT, tT, zT⟩
        · have q1 := e1 pL
          simp (disch := omega) only [onI_c, onS_c, onB_c, onN_c, onL_c, Option.bind_some, Option.map_some, cond_true, cond_false, ↓onI_c, ↓onS_c, ↓onB_c, ↓onN_c, ↓onL_c, ↓Option.bind_some, ↓cond_true, ↓cond_false, decide_eq_true, decide_eq_false, Bool.not_true, Bool.not_false, Int.toNat_natCast, List.length_append, List.length_cons, List.length_nil, List.drop_zero, Nat.zero_add, Nat.add_zero, decT, decF, bneI_t, bneI_f, hb, hL, hM, hW, hT, lL, iL, bL, tL, lM, iM, bM, tM, lW, iW, bW, tW, q1, wworks_at]
        · have q1 := e1 pL
          simp (disch := omega) only [onI_c, onS_c, onB_c, onN_c, onL_c, Option.bind_some, Option.map_some, cond_true, cond_false, ↓onI_c, ↓onS_c, ↓onB_c, ↓onN_c, ↓onL_c, ↓Option.bind_some, ↓cond_true, ↓cond_false, decide_eq_true, decide_eq_false, Bool.not_true, Bool.not_false, Int.toNat_natCast, List.length_append, List.length_cons, List.length_nil, List.drop_zero, Nat.zero_add, Nat.add_zero, decT, decF, bneI_t, bneI_f, hb, hL, hM, hW, hT, lL, iL, bL, tL, lM, iM, bM, tM, lW, iW, bW, tW, lT, iT, bT, tT, q1, wworks_at]
        · have q1 := e1 pL
          simp (disch := omega) only [onI_c, onS_c, onB_c, onN_c, onL_c, Option.bind_some, Option.map_some, cond_true, cond_false, ↓onI_c, ↓onS_c, ↓onB_c, ↓onN_c, ↓onL_c, ↓Option.bind_some, ↓cond_true, ↓cond_false, decide_eq_true, decide_eq_false, Bool.not_true, Bool.not_false, Int.toNat_natCast, List.length_append, List.length_cons, List.length_nil, List.drop_zero, Nat.zero_add, Nat.add_zero, decT, decF, bneI_t, bneI_f, hb, hL, hM, hW, hT, lL, iL, bL, tL, lM, iM, bM, tM, lW, iW, bW, tW, lT, iT, bT, tT, q1, wworks_at]
      · rcases cT with hT | ⟨jT, xT, wT, nT, yT, lT, hT, iT, pT, mT, bT, tT⟩ | ⟨jT, xT, wT, gT, fT, nT, yT, lT, hT, iT, pT, mT, bT, tT, zT⟩
        · have q1 := e1 pL
          simp (disch := omega) only [onI_c, onS_c, onB_c, onN_c, onL_c, Option.bind_some, Option.map_some, cond_true, cond_false, ↓onI_c, ↓onS_c, ↓onB_c, ↓onN_c, ↓onL_c, ↓Option.bind_some, ↓cond_true, ↓cond_false, decide_eq_true, decide_eq_false, Bool.not_true, Bool.not_false, Int.toNat_natCast, List.length_append, List.length_cons, List.length_nil, List.drop_zero, Nat.zero_add, Nat.add_zero, decT, decF, bneI_t, bneI_f, hb, hL, hM, hW, hT, lL, iL, bL, tL, lM, iM, bM, tM, lW, iW, bW, tW, q1, wworks_at]
        · have q1 := e1 pL
          simp (disch := omega) only [onI_c, onS_c, onB_c, onN_c, onL_c, Option.bind_some, Option.map_some, cond_true, cond_false, ↓onI_c, ↓onS_c, ↓onB_c, ↓onN_c, ↓onL_c, ↓Option.bind_some, ↓cond_true, ↓cond_false, decide_eq_true, decide_eq_false, Bool.not_true, Bool.not_false, Int.toNat_natCast, List.length_append, List.length_cons, List.length_nil, List.drop_zero, Nat.zero_add, Nat.add_zero, decT, decF, bneI_t, bneI_f, hb, hL, hM, hW, hT, lL, iL, bL, tL, lM, iM, bM, tM, lW, iW, bW, tW, lT, iT, bT, tT, q1, wworks_at]
        · have q1 := e1 pL
          simp (disch := omega) only [onI_c, onS_c, onB_c, onN_c, onL_c, Option.bind_some, Option.map_some, cond_true, cond_false, ↓onI_c, ↓onS_c, ↓onB_c, ↓onN_c, ↓onL_c, ↓Option.bind_some, ↓cond_true, ↓cond_false, decide_eq_true, decide_eq_false, Bool.not_true, Bool.not_false, Int.toNat_natCast, List.length_append, List.length_cons, List.length_nil, List.drop_zero, Nat.zero_add, Nat.add_zero, decT, decF, bneI_t, bneI_f, hb, hL, hM, hW, hT, lL, iL, bL, tL, lM, iM, bM, tM, lW, iW, bW, tW, lT, iT, bT, tT, q1, wworks_at]
    · rcases cW with hW | ⟨jW, xW, wW, nW, yW, lW, hW, iW, pW, mW, bW, tW⟩ | ⟨jW, xW, wW, gW, fW, nW, yW, lW, hW, iW, pW, mW, bW, tW, zW⟩
      · rcases cT with hT | ⟨jT, xT, wT, nT, yT, lT, hT, iT, pT, mT, bT, tT⟩ | ⟨jT, xT, wT, gT, fT, nT, yT, lT, hT, iT, pT, mT, bT, tT, zT⟩
        · have q1 := e1 pL
          simp (disch := omega) only [onI_c, onS_c, onB_c, onN_c, onL_c, Option.bind_some, Option.map_some, cond_true, cond_false, ↓onI_c, ↓onS_c, ↓onB_c, ↓onN_c, ↓onL_c, ↓Option.bind_some, ↓cond_true, ↓cond_false, decide_eq_true, decide_eq_false, Bool.not_true, Bool.not_false, Int.toNat_natCast, List.length_append, List.length_cons, List.length_nil, List.drop_zero, Nat.zero_add, Nat.add_zero, decT, decF, bneI_t, bneI_f, hb, hL, hM, hW, hT, lL, iL, bL, tL, lM, iM, bM, tM, q1, wworks_at]
        · have q1 := e1 pL
          simp (disch := omega) only [onI_c, onS_c, onB_c, onN_c, onL_c, Option.bind_some, Option.map_some, cond_true, cond_false, ↓onI_c, ↓onS_c, ↓onB_c, ↓onN_c, ↓onL_c, ↓Option.bind_some, ↓cond_true, ↓cond_false, decide_eq_true, decide_eq_false, Bool.not_true, Bool.not_false, Int.toNat_natCast, List.length_append, List.length_cons, List.length_nil, List.drop_zero, Nat.zero_add, Nat.add_zero, decT, decF, bneI_t, bneI_f, hb, hL, hM, hW, hT, lL, iL, bL, tL, lM, iM, bM, tM, lT, iT, bT, tT, q1, wworks_at]
        · have q1 := e1 pL
          simp (disch := omega) only [onI_c, onS_c, onB_c, onN_c, onL_c, Option.bind_some, Option.map_some, cond_true, cond_false, ↓onI_c, ↓onS_c, ↓onB_c, ↓onN_c, ↓onL_c, ↓Option.bind_some, ↓cond_true, ↓cond_false, decide_eq_true, decide_eq_false, Bool.not_true, Bool.not_false, Int.toNat_natCast, List.length_append, List.length_cons, List.length_nil, List.drop_zero, Nat.zero_add, Nat.add_zero, decT, decF, bneI_t, bneI_f, hb, hL, hM, hW, hT, lL, iL, bL, tL, lM, iM, bM, tM, lT, iT, bT, tT, q1, wworks_at]
      · rcases cT with hT | ⟨jT, xT, wT, nT, yT, lT, hT, iT, pT, mT, bT, tT⟩ | ⟨jT, xT, wT, gT, fT, nT, yT, lT, hT, iT, pT, mT, bT, tT, zT⟩
        · have q1 := e1 pL
          simp (disch := omega) only [onI_c, onS_c, onB_c, onN_c, onL_c, Option.bind_some, Option.map_some, cond_true, cond_false, ↓onI_c, ↓onS_c, ↓onB_c, ↓onN_c, ↓onL_c, ↓Option.bind_some, ↓cond_true, ↓cond_false, decide_eq_true, decide_eq_false, Bool.not_true, Bool.not_false, Int.toNat_natCast, List.length_append, List.length_cons, List.length_nil, List.drop_zero, Nat.zero_add, Nat.add_zero, decT, decF, bneI_t, bneI_f, hb, hL, hM, hW, hT, lL, iL, bL, tL, lM, iM, bM, tM, lW, iW, bW, tW, q1, wworks_at]
        · have q1 := e1 pL
          simp (disch := omega) only [onI_c, onS_c, onB_c, onN_c, onL_c, Option.bind_some, Option.map_some, cond_true, cond_false, ↓onI_c, ↓onS_c, ↓onB_c, ↓onN_c, ↓onL_c, ↓Option.bind_some, ↓cond_true, ↓cond_false, decide_eq_true, decide_eq_false, Bool.not_true, Bool.not_false, Int.toNat_natCast, List.length_append, List.length_cons, List.length_nil, List.drop_zero, Nat.zero_add, Nat.add_zero, decT, decF, bneI_t, bneI_f, hb, hL, hM, hW, hT, lL, iL, bL, tL, lM, iM, bM, tM, lW, iW, bW, tW, lT, iT, bT, tT, q1, wworks_at]
        · have q1 := e1 pL
          simp (disch := omega) only [onI_c, onS_c, onB_c, onN_c, onL_c, Option.bind_some, Option.map_some, cond_true, cond_false, ↓onI_c, ↓onS_c, ↓onB_c, ↓onN_c, ↓onL_c, ↓Option.bind_some, ↓cond_true, ↓cond_false, decide_eq_true, decide_eq_false, Bool.not_true, Bool.not_false, Int.toNat_natCast, List.length_append, List.length_cons, List.length_nil, List.drop_zero, Nat.zero_add, Nat.add_zero, decT, decF, bneI_t, bneI_f, hb, hL, hM, hW, hT, lL, iL, bL, tL, lM, iM, bM, tM, lW, iW, bW, tW, lT, iT, bT, tT, q1, wworks_at]
      · rcases cT with hT | ⟨jT, xT, wT, nT, yT, lT, hT, iT, pT, mT, bT, tT⟩ | ⟨jT, xT, wT, gT, fT, nT, yT, lT, hT, iT, pT, mT, bT, tT, zT⟩
        · have q1 := e1 pL
          simp (disch := omega) only [onI_c, onS_c, onB_c, onN_c, onL_c, Option.bind_some, Option.map_some, cond_true, cond_false, ↓onI_c, ↓onS_c, ↓onB_c, ↓onN_c, ↓onL_c, ↓Option.bind_some, ↓cond_true, ↓cond_false, decide_eq_true, decide_eq_false, Bool.not_true, Bool.not_false, Int.toNat_natCast, List.length_append, List.length_cons, List.length_nil, List.drop_zero, Nat.zero_add, Nat.add_zero, decT, decF, bneI_t, bneI_f, hb, hL, hM, hW, hT, lL, iL, bL, tL, lM, iM, bM, tM, lW, iW, bW, tW, q1, wworks_at]
        · have q1 := e1 pL
          simp (disch := omega) only [onI_c, onS_c, onB_c, onN_c, onL_c, Option.bind_some, Option.map_some, cond_true, cond_false, ↓onI_c, ↓onS_c, ↓onB_c, ↓onN_c, ↓onL_c, ↓Option.bind_some, ↓cond_true, ↓cond_false, decide_eq_true, decide_eq_false, Bool.not_true, Bool.not_false, Int.toNat_natCast, List.length_append, List.length_cons, List.length_nil, List.drop_zero, Nat.zero_add, Nat.add_zero, decT, decF, bneI_t, bneI_f, hb, hL, hM, hW, hT, lL, iL, bL, tL, lM, iM, bM, tM, lW, iW, bW, tW, lT, iT, bT, tT, q1, wworks_at]
        · have q1 := e1 pL
          simp (disch := omega) only [onI_c, onS_c, onB_c, onN_c, onL_c, Option.bind_some, Option.map_some, cond_true, cond_false, ↓onI_c, ↓onS_c, ↓onB_c, ↓onN_c, ↓onL_c, ↓Option.bind_some, ↓cond_true, ↓cond_false, decide_eq_true, decide_eq_false, Bool.not_true, Bool.not_false, Int.toNat_natCast, List.length_append, List.length_cons, List.length_nil, List.drop_zero, Nat.zero_add, Nat.add_zero, decT, decF, bneI_t, bneI_f, hb, hL, hM, hW, hT, lL, iL, bL, tL, lM, iM, bM, tM, lW, iW, bW, tW, lT, iT, bT, tT, q1, wworks_at]
  · rcases cM with hM | ⟨jM, xM, wM, nM, yM, lM, hM, iM, pM, mM, bM, tM⟩ | ⟨jM, xM, wM, gM, fM, nM, yM, lM, hM, iM, pM, mM, bM, tM, zM⟩
    · rcases cW with hW | ⟨jW, xW, wW, nW, yW, lW, hW, iW, pW, mW, bW, tW⟩ | ⟨jW, xW, wW, gW, fW, nW, yW, lW, hW, iW, pW, mW, bW, tW, zW⟩
      · rcases cT with hT | ⟨jT, xT, wT, nT, yT, lT, hT, iT, pT, mT, bT, tT⟩ | ⟨jT, xT, wT, gT, fT, nT, yT, lT, hT, iT, pT, mT, bT, tT, zT⟩
        · have q1 := e1 pL
          simp (disch := omega) only [onI_c, onS_c, onB_c, onN_c, onL_c, Option.bind_some, Option.map_some, cond_true, cond_false, ↓onI_c, ↓onS_c, ↓onB_c, ↓onN_c, ↓onL_c, ↓Option.bind_some, ↓cond_true, ↓cond_false, decide_eq_true, decide_eq_false, Bool.not_true, Bool.not_false, Int.toNat_natCast, List.length_append, List.length_cons, List.length_nil, List.drop_zero, Nat.zero_add, Nat.add_zero, decT, decF, bneI_t, bneI_f, hb, hL, hM, hW, hT, lL, iL, bL, tL, q1, wworks_at]
        · have q1 := e1 pL
          simp (disch := omega) only [onI_c, onS_c, onB_c, onN_c, onL_c, Option.bind_some, Option.map_some, cond_true, cond_false, ↓onI_c, ↓onS_c, ↓onB_c, ↓onN_c, ↓onL_c, ↓Option.bind_some, ↓cond_true, ↓cond_false, decide_eq_true, decide_eq_false, Bool.not_true, Bool.not_false, Int.toNat_natCast, List.length_append, List.length_cons, List.length_nil, List.drop_zero, Nat.zero_add, Nat.add_zero, decT, decF, bneI_t, bneI_f, hb, hL, hM, hW, hT, lL, iL, bL, tL, lT, iT, bT, tT, q1, wworks_at]
        · have q1 := e1 pL
          simp (disch := omega) only [onI_c, onS_c, onB_c, onN_c, onL_c, Option.bind_some, Option.map_some, cond_true, cond_false, ↓onI_c, ↓onS_c, ↓onB_c, ↓onN_c, ↓onL_c, ↓Option.bind_some, ↓cond_true, ↓cond_false, decide_eq_true, decide_eq_false, Bool.not_true, Bool.not_false, Int.toNat_natCast, List.length_append, List.length_cons, List.length_nil, List.drop_zero, Nat.zero_add, Nat.add_zero, decT, decF, bneI_t, bneI_f, hb, hL, hM, hW, hT, lL, iL, bL, tL, lT, iT, bT, tT, q1, wworks_at]
      · rcases cT with hT | ⟨jT, xT, wT, nT, yT, lT, hT, iT, pT, mT, bT, tT⟩ | ⟨jT, xT, wT, gT, fT, nT, yT, lT, hT, iT, pT, mT, bT, tT, zT⟩
        · have q1 := e1 pL
          simp (disch := omega) only [onI_c, onS_c, onB_c, onN_c, onL_c, Option.bind_some, Option.map_some, cond_true, cond_false, ↓onI_c, ↓onS_c, ↓onB_c, ↓onN_c, ↓onL_c, ↓Option.bind_some, ↓cond_true, ↓cond_false, decide_eq_true, decide_eq_false, Bool.not_true, Bool.not_false, Int.toNat_natCast, List.length_append, List.length_cons, List.length_nil, List.drop_zero, Nat.zero_add, Nat.add_zero, decT, decF, bneI_t, bneI_f, hb, hL, hM, hW, hT, lL, iL, bL, tL, lW, iW, bW, tW, q1, wworks_at]
        · have q1 := e1 pL
          simp (disch := omega) only [onI_c, onS_c, onB_c, onN_c, onL_c, Option.bind_some, Option.map_some, cond_true, cond_false, ↓onI_c, ↓onS_c, ↓onB_c, ↓onN_c, ↓onL_c, ↓Option.bind_some, ↓cond_true, ↓cond_false, decide_eq_true, decide_eq_false, Bool.not_true, Bool.not_false, Int.toNat_natCast, List.length_append, List.length_cons, List.length_nil, List.drop_zero, Nat.zero_add, Nat.add_zero, decT, decF, bneI_t, bneI_f, hb, hL, hM, hW, hT, lL, iL, bL, tL, lW, iW, bW, tW, lT, iT, bT, tT, q1, wworks_at]
        · have q1 := e1 pL
          simp (disch := omega) only [onI_c, onS_c, onB_c, onN_c, onL_c, Option.bind_some, Option.map_some, cond_true, cond_false, ↓onI_c, ↓onS_c, ↓onB_c, ↓onN_c, ↓onL_c, ↓Option.bind_some, ↓cond_true, ↓cond_false, decide_eq_true, decide_eq_false, Bool.not_true, Bool.not_false, Int.toNat_natCast, List.length_append, List.length_cons, List.length_nil, List.drop_zero, Nat.zero_add, Nat.add_zero, decT, decF, bneI_t, bneI_f, hb, hL, hM, hW, hT, lL, iL, bL, tL, lW, iW, bW, tW, lT, iT, bT, tT, q1, wworks_at]
      · rcases cT with hT | ⟨jT, xT, wT, nT, yT, lT, hT, iT, pT, mT, bT, tT⟩ | ⟨jT, xT, wT, gT, fT, nT, yT, lT, hT, iT, pT, mT, bT, tT, zT⟩
        · have q1 := e1 pL
          simp (disch := omega) only [onI_c, onS_c, onB_c, onN_c, onL_c, Option.bind_some, Option.map_some, cond_true, cond_false, ↓onI_c, ↓onS_c, ↓onB_c, ↓onN_c, ↓onL_c, ↓Option.bind_some, ↓cond_true, ↓cond_false, decide_eq_true, decide_eq_false, Bool.not_true, Bool.not_false, Int.toNat_natCast, List.length_append, List.length_cons, List.length_nil, List.drop_zero, Nat.zero_add, Nat.add_zero, decT, decF, bneI_t, bneI_f, hb, hL, hM, hW, hT, lL, iL, bL, tL, lW, iW, bW, tW, q1, wworks_at]
        · have q1 := e1 pL
          simp (disch := omega) only [onI_c, onS_c, onB_c, onN_c, onL_c, Option.bind_some, Option.map_some, cond_true, cond_false, ↓onI_c, ↓onS_c, ↓onB_c, ↓onN_c, ↓onL_c, ↓Option.bind_some, ↓cond_true, ↓cond_false, decide_eq_true, decide_eq_false, Bool.not_true, Bool.not_false, Int.toNat_natCast, List.length_append, List.length_cons, List.length_nil, List.drop_zero, Nat.zero_add, Nat.add_zero, decT, decF, bneI_t, bneI_f, hb, hL, hM, hW, hT, lL, iL, bL, tL, lW, iW, bW, tW, lT, iT, bT, tT, q1, wworks_at]
        · have q1 := e1 pL
          simp (disch := omega) only [onI_c, onS_c, onB_c, onN_c, onL_c, Option.bind_some, Option.map_some, cond_true, cond_false, ↓onI_c, ↓onS_c, ↓onB_c, ↓onN_c, ↓onL_c, ↓Option.bind_some, ↓cond_true, ↓cond_false, decide_eq_true, decide_eq_false, Bool.not_true, Bool.not_false, Int.toNat_natCast, List.length_append, List.length_cons, List.length_nil, List.drop_zero, Nat.zero_add, Nat.add_zero, decT, decF, bneI_t, bneI_f, hb, hL, hM, hW, hT, lL, iL, bL, tL, lW, iW, bW, tW, lT, iT, bT, tT, q1, wworks_at]
    · rcases cW with hW | ⟨jW, xW, wW, nW, yW, lW, hW, iW, pW, mW, bW, tW⟩ | ⟨jW, xW, wW, gW, fW, nW, yW, lW, hW, iW, pW, mW, bW, tW, zW⟩
      · rcases cT with hT | ⟨jT, xT, wT, nT, yT, lT, hT, iT, pT, mT, bT, tT⟩ | ⟨jT, xT, wT, gT, fT, nT, yT, lT, hT, iT, pT, mT, bT, tT, zT⟩
        · have q1 := e1 pL
          simp (disch := omega) only [onI_c, onS_c, onB_c, onN_c, onL_c, Option.bind_some, Option.map_some, cond_true, cond_false, ↓onI_c, ↓onS_c, ↓onB_c, ↓onN_c, ↓onL_c, ↓Option.bind_some, ↓cond_true, ↓cond_false, decide_eq_true, decide_eq_false, Bool.not_true, Bool.not_false, Int.toNat_natCast, List.length_append, List.length_cons, List.length_nil, List.drop_zero, Nat.zero_add, Nat.add_zero, decT, decF, bneI_t, bneI_f, hb, hL, hM, hW, hT, lL, iL, bL, tL, lM, iM, bM, tM, q1, wworks_at]
        · have q1 := e1 pL
          simp (disch := omega) only [onI_c, onS_c, onB_c, onN_c, onL_c, Option.bind_some, Option.map_some, cond_true, cond_false, ↓onI_c, ↓onS_c, ↓onB_c, ↓onN_c, ↓onL_c, ↓Option.bind_some, ↓cond_true, ↓cond_false, decide_eq_true, decide_eq_false, Bool.not_true, Bool.not_false, Int.toNat_natCast, List.length_append, List.length_cons, List.length_nil, List.drop_zero, Nat.zero_add, Nat.add_zero, decT, decF, bneI_t, bneI_f, hb, hL, hM, hW, hT, lL, iL, bL, tL, lM, iM, bM, tM, lT, iT, bT, tT, q1, wworks_at]
        · have q1 := e1 pL
          simp (disch := omega) only [onI_c, onS_c, onB_c, onN_c, onL_c, Option.bind_some, Option.map_some, cond_true, cond_false, ↓onI_c, ↓onS_c, ↓onB_c, ↓onN_c, ↓onL_c, ↓Option.bind_some, ↓cond_true, ↓cond_false, decide_eq_true, decide_eq_false, Bool.not_true, Bool.not_false, Int.toNat_natCast, List.length_append, List.length_cons, List.length_nil, List.drop_zero, Nat.zero_add, Nat.add_zero, decT, decF, bneI_t, bneI_f, hb, hL, hM, hW, hT, lL, iL, bL, tL, lM, iM, bM, tM, lT, iT, bT, tT, q1, wworks_at]
      · rcases cT with hT | ⟨jT, xT, wT, nT, yT, lT, hT, iT, pT, mT, bT, tT⟩ | ⟨jT, xT, wT, gT, fT, nT, yT, lT, hT, iT, pT, mT, bT, tT, zT⟩
        · have q1 := e1 pL
          simp (disch := omega) only [onI_c, onS_c, onB_c, onN_c, onL_c, Option.bind_some, Option.map_some, cond_true, cond_false, ↓onI_c, ↓onS_c, ↓onB_c, ↓onN_c, ↓onL_c, ↓Option.bind_some, ↓cond_true, ↓cond_false, decide_eq_true, decide_eq_false, Bool.not_true, Bool.not_false, Int.toNat_natCast, List.length_append, List.length_cons, List.length_nil, List.drop_zero, Nat.zero_add, Nat.add_zero, decT, decF, bneI_t, bneI_f, hb, hL, hM, hW, hT, lL, iL, bL, tL, lM, iM, bM, tM, lW, iW, bW, tW, q1, wworks_at]
        · have q1 := e1 pL
          simp (disch := omega) only [onI_c, onS_c, onB_c, onN_c, onL_c, Option.bind_some, Option.map_some, cond_true, cond_false, ↓onI_c, ↓onS_c, ↓onB_c, ↓onN_c, ↓onL_c, ↓Option.bind_some, ↓cond_true, ↓cond_false, decide_eq_true, decide_eq_false, Bool.not_true, Bool.not_false, Int.toNat_natCast, List.length_append, List.length_cons, List.length_nil, List.drop_zero, Nat.zero_add, Nat.add_zero, decT, decF, bneI_t, bneI_f, hb, hL, hM, hW, hT, lL, iL, bL, tL, lM, iM, bM, tM, lW, iW, bW, tW, lT, iT, bT, tT, q1, wworks_at]
        · have q1 := e1 pL
          simp (disch := omega) only [onI_c, onS_c, onB_c, onN_c, onL_c, Option.bind_some, Option.map_some, cond_true, cond_false, ↓onI_c, ↓onS_c, ↓onB_c, ↓onN_c, ↓onL_c, ↓Option.bind_some, ↓cond_true, ↓cond_false, decide_eq_true, decide_eq_false, Bool.not_true, Bool.not_false, Int.toNat_natCast, List.length_append, List.length_cons, List.length_nil, List.drop_zero, Nat.zero_add, Nat.add_zero, decT, decF, bneI_t, bneI_f, hb, hL, hM, hW, hT, lL, iL, bL, tL, lM, iM, bM, tM, lW, iW, bW, tW, lT, iT, bT, tT, q1, wworks_at]
      · rcases cT with hT | ⟨jT, xT, wT, nT, yT, lT, hT, iT, pT, mT, bT, tT⟩ | ⟨jT, xT, wT, gT, fT, nT, yT, lT, hT, iT, pT, mT, bT, tT, zT⟩
        · have q1 := e1 pL
          simp (disch := omega) only [onI_c, onS_c, onB_c, onN_c, onL_c, Option.bind_some, Option.map_some, cond_true, cond_false, ↓onI_c, ↓onS_c, ↓onB_c, ↓onN_c, ↓onL_c, ↓Option.bind_some, ↓cond_true, ↓cond_false, decide_eq_true, decide_eq_false, Bool.not_true, Bool.not_false, Int.toNat_natCast, List.length_append, List.length_cons, List.length_nil, List.drop_zero, Nat.zero_add, Nat.add_zero, decT, decF, bneI_t, bneI_f, hb, hL, hM, hW, hT, lL, iL, bL, tL, lM, iM, bM, tM, lW, iW, bW, tW, q1, wworks_at]
        · have q1 := e1 pL
          simp (disch := omega) only [onI_c, onS_c, onB_c, onN_c, onL_c, Option.bind_some, Option.map_some, cond_true, cond_false, ↓onI_c, ↓onS_c, ↓onB_c, ↓onN_c, ↓onL_c, ↓Option.bind_some, ↓cond_true, ↓cond_false, decide_eq_true, decide_eq_false, Bool.not_true, Bool.not_false, Int.toNat_natCast, List.length_append, List.length_cons, List.length_nil, List.drop_zero, Nat.zero_add, Nat.add_zero, decT, decF, bneI_t, bneI_f, hb, hL, hM, hW, hT, lL, iL, bL, tL, lM, iM, bM, tM, lW, iW, bW, tW, lT, iT, bT, tT, q1, wworks_at]
        · have q1 := e1 pL
          simp (disch := omega) only [onI_c, onS_c, onB_c, onN_c, onL_c, Option.bind_some, Option.map_some, cond_true, cond_false, ↓onI_c, ↓onS_c, ↓onB_c, ↓onN_c, ↓onL_c, ↓Option.bind_some, ↓cond_true, ↓cond_false, decide_eq_true, decide_eq_false, Bool.not_true, Bool.not_false, Int.toNat_natCast, List.length_append, List.length_cons, List.length_nil, List.drop_zero, Nat.zero_add, Nat.add_zero, decT, decF, bneI_t, bneI_f, hb, hL, hM, hW, hT, lL, iL, bL, tL, lM, iM, bM, tM, lW, iW, bW, tW, lT, iT, bT, tT, q1, wworks_at]
    · rcases cW with hW | ⟨jW, xW, wW, nW, yW, lW, hW, iW, pW, mW, bW, tW⟩ | ⟨jW, xW, wW, gW, fW, nW, yW, lW, hW, iW, pW, mW, bW, tW, zW⟩
      · rcases cT with hT | ⟨jT, xT, wT, nT, yT, lT, hT, iT, pT, mT, bT, tT⟩ | ⟨jT, xT, wT, gT, fT, nT, yT, lT, hT, iT, pT, mT, bT, tT, zT⟩
        · have q1 := e1 pL
          simp (disch := omega) only [onI_c, onS_c, onB_c, onN_c, onL_c, Option.bind_some, Option.map_some, cond_true, cond_false, ↓onI_c, ↓onS_c, ↓onB_c, ↓onN_c, ↓onL_c, ↓Option.bind_some, ↓cond_true, ↓cond_false, decide_eq_true, decide_eq_false, Bool.not_true, Bool.not_false, Int.toNat_natCast, List.length_append, List.length_cons, List.length_nil, List.drop_zero, Nat.zero_add, Nat.add_zero, decT, decF, bneI_t, bneI_f, hb, hL, hM, hW, hT, lL, iL, bL, tL, lM, iM, bM, tM, q1, wworks_at]
        · have q1 := e1 pL
          simp (disch := omega) only [onI_c, onS_c, onB_c, onN_c, onL_c, Option.bind_some, Option.map_some, cond_true, cond_false, ↓onI_c, ↓onS_c, ↓onB_c, ↓onN_c, ↓onL_c, ↓Option.bind_some, ↓cond_true, ↓cond_false, decide_eq_true, decide_eq_false, Bool.not_true, Bool.not_false, Int.toNat_natCast, List.length_append, List.length_cons, List.length_nil, List.drop_zero, Nat.zero_add, Nat.add_zero, decT, decF, bneI_t, bneI_f, hb, hL, hM, hW, hT, lL, iL, bL, tL, lM, iM, bM, tM, lT, iT, bT, tT, q1, wworks_at]
        · have q1 := e1 pL
          simp (disch := omega) only [onI_c, onS_c, onB_c, onN_c, onL_c, Option.bind_some, Option.map_some, cond_true, cond_false, ↓onI_c, ↓onS_c, ↓onB_c, ↓onN_c, ↓onL_c, ↓Option.bind_some, ↓cond_true, ↓cond_false, decide_eq_true, decide_eq_false, Bool.not_true, Bool.not_false, Int.toNat_natCast, List.length_append, List.length_cons, List.length_nil, List.drop_zero, Nat.zero_add, Nat.add_zero, decT, decF, bneI_t, bneI_f, hb, hL, hM, hW, hT, lL, iL, bL, tL, lM, iM, bM, tM, lT, iT, bT, tT, q1, wworks_at]
      · rcases cT with hT | ⟨jT, xT, wT, nT, yT, lT, hT, iT, pT, mT, bT, tT⟩ | ⟨jT, xT, wT, gT, fT, nT, yT, lT, hT, iT, pT, mT, bT, tT, zT⟩
        · have q1 := e1 pL
          simp (disch := omega) only [onI_c, onS_c, onB_c, onN_c, onL_c, Option.bind_some, Option.map_some, cond_true, cond_false, ↓onI_c, ↓onS_c, ↓onB_c, ↓onN_c, ↓onL_c, ↓Option.bind_some, ↓cond_true, ↓cond_false, decide_eq_true, decide_eq_false, Bool.not_true, Bool.not_false, Int.toNat_natCast, List.length_append, List.length_cons, List.length_nil, List.drop_zero, Nat.zero_add, Nat.add_zero, decT, decF, bneI_t, bneI_f, hb, hL, hM, hW, hT, lL, iL, bL, tL, lM, iM, bM, tM, lW, iW, bW, tW, q1, wworks_at]
        · have q1 := e1 pL
          simp (disch := omega) only [onI_c, onS_c, onB_c, onN_c, onL_c, Option.bind_some, Option.map_some, cond_true, cond_false, ↓onI_c, ↓onS_c, ↓onB_c, ↓onN_c, ↓onL_c, ↓Option.bind_some, ↓cond_true, ↓cond_false, decide_eq_true, decide_eq_false, Bool.not_true, Bool.not_false, Int.toNat_natCast, List.length_append, List.length_cons, List.length_nil, List.drop_zero, Nat.zero_add, Nat.add_zero, decT, decF, bneI_t, bneI_f, hb, hL, hM, hW, hT, lL, iL, bL, tL, lM, iM, bM, tM, lW, iW, bW, tW, lT, iT, bT, tT, q1, wworks_at]
        · have q1 := e1 pL
          simp (disch := omega) only [onI_c, onS_c, onB_c, onN_c, onL_c, Option.bind_some, Option.map_some, cond_true, cond_false, ↓onI_c, ↓onS_c, ↓onB_c, ↓onN_c, ↓onL_c, ↓Option.bind_some, ↓cond_true, ↓cond_false, decide_eq_true, decide_eq_false, Bool.not_true, Bool.not_false, Int.toNat_natCast, List.length_append, List.length_cons, List.length_nil, List.drop_zero, Nat.zero_add, Nat.add_zero, decT, decF, bneI_t, bneI_f, hb, hL, hM, hW, hT, lL, iL, bL, tL, lM, iM, bM, tM, lW, iW, bW, tW, lT, iT, bT, tT, q1, wworks_at]
      · rcases cT with hT | ⟨jT, xT, wT, nT, yT, lT, hT, iT, pT, mT, bT, tT⟩ | ⟨jT, xT, wT, gT, fT, nT, yT, lT, hT, iT, pT, mT, bT, tT, zT⟩
        · have q1 := e1 pL
          simp (disch := omega) only [onI_c, onS_c, onB_c, onN_c, onL_c, Option.bind_some, Option.map_some, cond_true, cond_false, ↓onI_c, ↓onS_c, ↓onB_c, ↓onN_c, ↓onL_c, ↓Option.bind_some, ↓cond_true, ↓cond_false, decide_eq_true, decide_eq_false, Bool.not_true, Bool.not_false, Int.toNat_natCast, List.length_append, List.length_cons, List.length_nil, List.drop_zero, Nat.zero_add, Nat.add_zero, decT, decF, bneI_t, bneI_f, hb, hL, hM, hW, hT, lL, iL, bL, tL, lM, iM, bM, tM, lW, iW, bW, tW, q1, wworks_at]
        · have q1 := e1 pL
          simp (disch := omega) only [onI_c, onS_c, onB_c, onN_c, onL_c, Option.bind_some, Option.map_some, cond_true, cond_false, ↓onI_c, ↓onS_c, ↓onB_c, ↓onN_c, ↓onL_c, ↓Option.bind_some, ↓cond_true, ↓cond_false, decide_eq_true, decide_eq_false, Bool.not_true, Bool.not_false, Int.toNat_natCast, List.length_append, List.length_cons, List.length_nil, List.drop_zero, Nat.zero_add, Nat.add_zero, decT, decF, bneI_t, bneI_f, hb, hL, hM, hW, hT, lL, iL, bL, tL, lM, iM, bM, tM, lW, iW, bW, tW, lT, iT, bT, tT, q1, wworks_at]
        · have q1 := e1 pL
          simp (disch := omega) only [onI_c, onS_c, onB_c, onN_c, onL_c, Option.bind_some, Option.map_some, cond_true, cond_false, ↓onI_c, ↓onS_c, ↓onB_c, ↓onN_c, ↓onL_c, ↓Option.bind_some, ↓cond_true, ↓cond_false, decide_eq_true, decide_eq_false, Bool.not_true, Bool.not_false, Int.toNat_natCast, List.length_append, List.length_cons, List.length_nil, List.drop_zero, Nat.zero_add, Nat.add_zero, decT, decF, bneI_t, bneI_f, hb, hL, hM, hW, hT, lL, iL, bL, tL, lM, iM, bM, tM, lW, iW, bW, tW, lT, iT, bT, tT, q1, wworks_at]
theorem one_run {ll : List AV} {ls : List UInt8} (hr : Sm.BR ll ls) (hl : ls.length ≤ 12) : ∀ (m i : Nat) (cells : List AV) (bs : List UInt8), i + m = ls.length → Sm.BR cells bs → bs.length = ls.length → lowB (bs.take i) →
    iter F_law08_WordOne_L0 [.n ls.length, .l ll, .n ls.length, .n ls.length, .i ((ls.length : Nat) : Int), .i ((i : Nat) : Int), .l cells] = some [.b true] := by
  intro m
  induction m with
  | zero =>
    intro i cells bs hi hb hbl hlow
    rw [List.take_of_length_le (by omega)] at hlow
    have h1 := hb.bytes
    have h2 : List.take ls.length cells = cells := List.take_of_length_le (by rw [hb.1]; omega)
    have hi' : i = ls.length := by omega
    subst hi'
    exact one_tail (s := bs) (by rw [h2]; exact h1) (by rw [hb.1]; omega) hlow (by omega)
  | succ m ih =>
    intro i cells bs hi hb hbl hlow
    have g1 := hr.asI (i := i) (by omega)
    have g4 : i64 ((i : Int) + 1) = ((i + 1 : Nat) : Int) := by rw [i64_in _ (by omega)]; omega
    generalize ls.getD i 0 = d at *
    have hd : d.toNat % 26 < 26 := Nat.mod_lt _ (by omega)
    have e2 : Int.tmod ((d.toNat : Nat) : Int) 26 = ((d.toNat % 26 : Nat) : Int) := by rw [tmod_nn (by omega)]; omega
    have e3 : u8 (97 + ((d.toNat % 26 : Nat) : Int)) = (((UInt8.ofNat (97 + d.toNat % 26)).toNat : Nat) : Int) := by rw [u8_in _ (by omega), UInt8.toNat_ofNat']; omega
    have hw := hb.write (i := i) (by omega) _ _ e3
    have hwc := hw.closed
    have hcl := hb.1
    have one : ([AV.int .u8 (.sym (u8 (97 + ((d.toNat % 26 : Nat) : Int))))]).length = 1 := rfl
    have k := ih (i + 1) _ _ (by omega) hw (by rw [List.length_set]; exact hbl) (by
      intro c hc
      rw [List.take_succ] at hc
      rcases List.mem_append.1 hc with hc | hc
      · rw [List.take_set_of_le (Nat.le_refl _)] at hc
        exact hlow c hc
      · rw [List.getElem?_set_self (by omega)] at hc
        have : c = UInt8.ofNat (97 + d.toNat % 26) := by simpa using hc
        rw [this, UInt8.toNat_ofNat']; omega)
    rw [iter_next (y := [.n ls.length, .l ll, .n ls.length, .n ls.length, .i ((ls.length : Nat) : Int), .i ((i + 1 : Nat) : Int), .l (Ax.write cells i [AV.int .u8 (.sym (u8 (97 + ((d.toNat % 26 : Nat) : Int))))])]), k]
    unfold F_law08_WordOne_L0
    clear ih k hb hw hlow hr e3
    generalize d.toNat % 26 = D at *
    simp (disch := omega) only [onI_c, onS_c, onB_c, onN_c, onL_c, Option.bind_some, Option.map_some, cond_true, cond_false, ↓onI_c, ↓onS_c, ↓onB_c, ↓onN_c, ↓onL_c, ↓Option.bind_some, ↓cond_true, ↓cond_false, decide_eq_true, decide_eq_false, Bool.not_true, Bool.not_false, Int.toNat_natCast, List.length_append, List.length_cons, List.length_nil, List.drop_zero, Nat.zero_add, Nat.add_zero, decT, decF, bneI_t, bneI_f, g1, g4, e2, one, hwc]
theorem br_zeros : ∀ n : Nat, Sm.BR (listC n [AV.int .u8 (.lit 0)]) (List.replicate n 0)
  | 0 => ⟨rfl, fun i hi => by simp at hi⟩
  | n + 1 => by
    obtain ⟨h1, h2⟩ := br_zeros n
    have e : listC (n + 1) [AV.int .u8 (.lit 0)] = .int .u8 (.lit 0) :: listC n [AV.int .u8 (.lit 0)] := rfl
    rw [e, List.replicate_succ]
    refine ⟨by simp [h1], fun i hi => ?_⟩
    cases i with
    | zero => exact ⟨.lit 0, rfl, rfl⟩
    | succ i => simpa using h2 i (by simpa using hi)
theorem br_of {τ : Tys} {e n : Nat} {c : List AV} (ht : tks τ 12 e = some [.int .u8]) (h : CellOk τ (.slice e) (.seq (.sym n) c)) : ∃ b, Sm.BR c b ∧ n = b.length := by
  cases h with
  | slice he hp hl hn h =>
    rw [ht] at he
    cases he
    have hl : c.length = n := by simpa using hl
    have key : ∀ (c : List AV), (∀ (i : Nat) (x : AV), c[i]? = some x → CellOk τ (.int .u8) x) → ∃ b, Sm.BR c b := by
      intro c
      induction c with
      | nil => intro _; exact ⟨[], rfl, fun j hj => by simp at hj⟩
      | cons x c ih =>
        intro hc
        obtain ⟨b, hb1, hb2⟩ := ih (fun i y q => hc (i + 1) y q)
        have h0 := hc 0 x rfl
        cases h0 with | int hw =>
        rename_i v
        have hv := wf_u8 hw
        refine ⟨UInt8.ofNat v.toNat :: b, by simp [hb1], fun j hj => ?_⟩
        cases j with
        | zero =>
          refine ⟨.sym v, rfl, ?_⟩
          show v = _
          rw [List.getD_cons_zero, UInt8.toNat_ofNat']
          omega
        | succ j => simpa using hb2 j (by simpa using hj)
    obtain ⟨b, hb⟩ := key c (fun i x q => h i x (.int .u8) q (by simp [Nat.mod_one]))
    exact ⟨b, hb, by rw [← hb.1, hl]⟩
theorem wordOne {ll : List AV} {ls : List UInt8} (hr : Sm.BR ll ls) : F_law08_WordOne [.n ls.length, .l ll] = some [.b true] := by
  unfold F_law08_WordOne
  by_cases h : 12 < ls.length
  · simp (disch := omega) only [onI_c, onS_c, onB_c, onN_c, onL_c, Option.bind_some, Option.map_some, cond_true, cond_false, ↓onI_c, ↓onS_c, ↓onB_c, ↓onN_c, ↓onL_c, ↓Option.bind_some, ↓cond_true, ↓cond_false, decide_eq_true, decide_eq_false, Bool.not_true, Bool.not_false, Int.toNat_natCast, List.length_append, List.length_cons, List.length_nil, List.drop_zero, Nat.zero_add, Nat.add_zero, decT, decF, bneI_t, bneI_f, wworks_at]
  · have hz := br_zeros ls.length
    have hzc := hz.closed
    have k := one_run hr (by omega) ls.length 0 _ _ (by omega) hz (by simp) (fun c hc => by simp at hc)
    simp (disch := omega) only [onI_c, onS_c, onB_c, onN_c, onL_c, Option.bind_some, Option.map_some, cond_true, cond_false, ↓onI_c, ↓onS_c, ↓onB_c, ↓onN_c, ↓onL_c, ↓Option.bind_some, ↓cond_true, ↓cond_false, decide_eq_true, decide_eq_false, Bool.not_true, Bool.not_false, Int.toNat_natCast, List.length_append, List.length_cons, List.length_nil, List.drop_zero, Nat.zero_add, Nat.add_zero, decT, decF, bneI_t, bneI_f, hzc]
    exact k
theorem lawP_WordOne {dats : List Dat} (h : DatOk tau [.slice 5] dats) : F_law08_WordOne dats = some [.b true] := by
  obtain ⟨n, c, r, rfl, hc, rfl⟩ := h
  obtain ⟨ls, hl, rfl⟩ := br_of (by kernel_rfl) hc
  exact wordOne hl
end Go.Proofs.YtdpjkapaphelhaaDoor
