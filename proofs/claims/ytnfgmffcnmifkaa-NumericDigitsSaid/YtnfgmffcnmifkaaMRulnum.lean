/-
  Rows of Rul: what their cells say.
-/
import Derived.Test.YtnfgmffcnmifkaaAxT
import Derived.Test.YtnfgmffcnmifkaaAx32
namespace Go.Proofs.Ytnfgmffcnmifkaa
open Go.Ax
set_option linter.all false
set_option maxHeartbeats 4000000

structure Rul where
  fName : List UInt8
  fFrom : Int
  fTo : Int
  fMonth : Int
  fDayKind : Int
  fDayWeek : Int
  fDayDay : Int
  fAtSec : Int
  fAtBase : Int
  fSave : Int
  fLetter : List UInt8
def Rul.at (c : List AV) (j : Nat) (r : Rul) : Prop := asS (c[j]?) = some r.fName ∧ asI .i64 (c[j + 1]?) = some r.fFrom ∧ asI .i64 (c[j + 2]?) = some r.fTo ∧ asI .i64 (c[j + 3]?) = some r.fMonth ∧ asI .i64 (c[j + 4]?) = some r.fDayKind ∧ asI .i64 (c[j + 5]?) = some r.fDayWeek ∧ asI .i64 (c[j + 6]?) = some r.fDayDay ∧ asI .i64 (c[j + 7]?) = some r.fAtSec ∧ asI .i64 (c[j + 8]?) = some r.fAtBase ∧ asI .i64 (c[j + 9]?) = some r.fSave ∧ asS (c[j + 10]?) = some r.fLetter
def Rul.wf (r : Rul) : Prop := r.fName.length ≤ maxLen ∧ (Lit.int .i64 r.fFrom).wf = true ∧ (Lit.int .i64 r.fTo).wf = true ∧ (Lit.int .i64 r.fMonth).wf = true ∧ (Lit.int .i64 r.fDayKind).wf = true ∧ (Lit.int .i64 r.fDayWeek).wf = true ∧ (Lit.int .i64 r.fDayDay).wf = true ∧ (Lit.int .i64 r.fAtSec).wf = true ∧ (Lit.int .i64 r.fAtBase).wf = true ∧ (Lit.int .i64 r.fSave).wf = true ∧ r.fLetter.length ≤ maxLen
/-- The cells of a list of them. -/
structure Rul.Rep (c : List AV) (rs : List Rul) : Prop where
  len : c.length = rs.length * 11
  at_ : ∀ (i : Nat) (r : Rul), rs[i]? = some r → Rul.at c (i * 11) r
theorem Rul.Rep.nil : Rul.Rep [] [] := ⟨rfl, fun i r h => by simp at h⟩
theorem Rul.at_get {c : List AV} {j : Nat} {r : Rul} {c' : List AV} {j' : Nat} (h : Rul.at c j r) (hg : ∀ i, i < 11 → c'[j' + i]? = c[j + i]?) : Rul.at c' j' r := by
  obtain ⟨h0, h1, h2, h3, h4, h5, h6, h7, h8, h9, h10⟩ := h
  refine ⟨(by rw [show c'[j']? = _ from hg 0 (by omega)]; exact h0), (by rw [show c'[j' + 1]? = _ from hg 1 (by omega)]; exact h1), (by rw [show c'[j' + 2]? = _ from hg 2 (by omega)]; exact h2), (by rw [show c'[j' + 3]? = _ from hg 3 (by omega)]; exact h3), (by rw [show c'[j' + 4]? = _ from hg 4 (by omega)]; exact h4), (by rw [show c'[j' + 5]? = _ from hg 5 (by omega)]; exact h5), (by rw [show c'[j' + 6]? = _ from hg 6 (by omega)]; exact h6), (by rw [show c'[j' + 7]? = _ from hg 7 (by omega)]; exact h7), (by rw [show c'[j' + 8]? = _ from hg 8 (by omega)]; exact h8), (by rw [show c'[j' + 9]? = _ from hg 9 (by omega)]; exact h9), (by rw [show c'[j' + 10]? = _ from hg 10 (by omega)]; exact h10)⟩
theorem Rul.Rep.append {c c' : List AV} {rs rs' : List Rul} (h : Rul.Rep c rs) (h' : Rul.Rep c' rs') : Rul.Rep (c ++ c') (rs ++ rs') := by
  refine ⟨by rw [List.length_append, List.length_append, h.len, h'.len]; omega, fun i r hi => ?_⟩
  by_cases q : i < rs.length
  · rw [List.getElem?_append_left q] at hi
    refine Rul.at_get (h.at_ i r hi) fun m hm => ?_
    rw [List.getElem?_append_left (by rw [h.len]; omega)]
  · rw [List.getElem?_append_right (by omega)] at hi
    refine Rul.at_get (h'.at_ _ r hi) fun m hm => ?_
    rw [List.getElem?_append_right (by rw [h.len]; omega), h.len]
    congr 1
    omega
theorem Rul.Rep.one {c : List AV} {r : Rul} (hl : c.length = 11) (h : Rul.at c 0 r) : Rul.Rep c [r] := by
  refine ⟨by rw [hl]; rfl, fun i r' hi => ?_⟩
  cases i with
  | zero => cases hi; rw [Nat.zero_mul]; exact h
  | succ i => simp at hi
theorem Rul.Rep.drop {c : List AV} {rs : List Rul} (h : Rul.Rep c rs) (n : Nat) : Rul.Rep (c.drop (n * 11)) (rs.drop n) := by
  refine ⟨by rw [List.length_drop, List.length_drop, h.len]; omega, fun i r hi => ?_⟩
  rw [List.getElem?_drop] at hi
  refine Rul.at_get (h.at_ _ r hi) fun m hm => ?_
  rw [List.getElem?_drop]; congr 1; omega
theorem Rul.Rep.take {c : List AV} {rs : List Rul} (h : Rul.Rep c rs) (n : Nat) : Rul.Rep (c.take (n * 11)) (rs.take n) := by
  refine ⟨by rw [List.length_take, List.length_take, h.len]; omega, fun i r hi => ?_⟩
  by_cases q : i < n
  · rw [List.getElem?_take, if_pos q] at hi
    refine Rul.at_get (h.at_ _ r hi) fun m hm => ?_
    rw [List.getElem?_take, if_pos (by omega)]
  · rw [List.getElem?_take, if_neg q] at hi; cases hi
theorem Rul.Rep.lt {c : List AV} {rs : List Rul} (h : Rul.Rep c rs) {i : Nat} (hi : i < rs.length) : Rul.at c (i * 11) (rs[i]) := h.at_ i _ (List.getElem?_eq_getElem hi)
theorem Rul.Rep.cons {c : List AV} {r : Rul} {rs : List Rul} (h : Rul.Rep c (r :: rs)) : Rul.at c 0 r ∧ Rul.Rep (c.drop 11) rs := by
  refine ⟨by have := h.at_ 0 r rfl; rwa [Nat.zero_mul] at this, ?_⟩
  have := h.drop 1
  rwa [Nat.one_mul] at this
theorem Rul.closed {c : List AV} {j : Nat} {r : Rul} (h : Rul.at c j r) {m : Nat} (hm : m < 11) {x : AV} (hx : c[j + m]? = some x) : closedN 20 x = true := by
  obtain ⟨h0, h1, h2, h3, h4, h5, h6, h7, h8, h9, h10⟩ := h
  have key : ∀ (o : Option AV), o = some x → ((asS o).isSome ∨ (asB o).isSome ∨ (asL o).isSome ∨ (∃ k v, asI k o = some v)) → closedN 20 x = true := by
    intro o e q
    subst e
    cases x <;> first | rfl | (rcases q with q | q | q | ⟨k, v, q⟩ <;> first | cases q | simp [asS] at q | simp [asB] at q | simp [asL] at q)
  have hm' : m = 0 ∨ m = 1 ∨ m = 2 ∨ m = 3 ∨ m = 4 ∨ m = 5 ∨ m = 6 ∨ m = 7 ∨ m = 8 ∨ m = 9 ∨ m = 10 := by omega
  rcases hm' with rfl | rfl | rfl | rfl | rfl | rfl | rfl | rfl | rfl | rfl | rfl
  · exact key _ hx (.inl (Eq.trans (congrArg Option.isSome h0) rfl))
  · exact key _ hx (.inr (.inr (.inr ⟨_, _, h1⟩)))
  · exact key _ hx (.inr (.inr (.inr ⟨_, _, h2⟩)))
  · exact key _ hx (.inr (.inr (.inr ⟨_, _, h3⟩)))
  · exact key _ hx (.inr (.inr (.inr ⟨_, _, h4⟩)))
  · exact key _ hx (.inr (.inr (.inr ⟨_, _, h5⟩)))
  · exact key _ hx (.inr (.inr (.inr ⟨_, _, h6⟩)))
  · exact key _ hx (.inr (.inr (.inr ⟨_, _, h7⟩)))
  · exact key _ hx (.inr (.inr (.inr ⟨_, _, h8⟩)))
  · exact key _ hx (.inr (.inr (.inr ⟨_, _, h9⟩)))
  · exact key _ hx (.inl (Eq.trans (congrArg Option.isSome h10) rfl))
theorem Rul.Rep.closed {c : List AV} {rs : List Rul} (h : Rul.Rep c rs) : List.all c (closedN 20) = true := by
  rw [List.all_eq_true]
  intro x hx
  obtain ⟨i, hi, rfl⟩ := List.mem_iff_getElem.1 hx
  have hl := h.len
  have hd : i / 11 < rs.length := by omega
  refine Rul.closed (h.lt hd) (m := i % 11) (by omega) ?_
  rw [show i / 11 * 11 + i % 11 = i by omega]
  exact List.getElem?_eq_getElem hi
theorem Rul.of_cells {e n : Nat} {c : List AV} (he : tks tau 12 e = some [.string, .int .i64, .int .i64, .int .i64, .int .i64, .int .i64, .int .i64, .int .i64, .int .i64, .int .i64, .string]) (h : CellOk tau (.slice e) (.seq (.sym n) c)) : ∃ rs, n = rs.length ∧ n ≤ maxLen ∧ Rul.Rep c rs ∧ ∀ r ∈ rs, r.wf := by
  cases h with
  | slice he' hp hl hn hc =>
    rename_i l
    obtain rfl : l = _ := Option.some.inj (he'.symm.trans he)
    have hl : c.length = n * 11 := hl
    have row : ∀ j, j < n → ∃ r, Rul.at c (j * 11) r ∧ r.wf := by
      intro j hj
      obtain ⟨x0, g0⟩ : ∃ x, c[j * 11 + 0]? = some x := ⟨_, List.getElem?_eq_getElem (by omega)⟩
      have k0 := hc _ x0 (.string) g0 (by show ([.string, .int .i64, .int .i64, .int .i64, .int .i64, .int .i64, .int .i64, .int .i64, .int .i64, .int .i64, .string] : List TK)[(j * 11 + 0) % 11]? = _; rw [show (j * 11 + 0) % 11 = 0 by omega]; rfl)
      obtain ⟨x1, g1⟩ : ∃ x, c[j * 11 + 1]? = some x := ⟨_, List.getElem?_eq_getElem (by omega)⟩
      have k1 := hc _ x1 (.int .i64) g1 (by show ([.string, .int .i64, .int .i64, .int .i64, .int .i64, .int .i64, .int .i64, .int .i64, .int .i64, .int .i64, .string] : List TK)[(j * 11 + 1) % 11]? = _; rw [show (j * 11 + 1) % 11 = 1 by omega]; rfl)
      obtain ⟨x2, g2⟩ : ∃ x, c[j * 11 + 2]? = some x := ⟨_, List.getElem?_eq_getElem (by omega)⟩
      have k2 := hc _ x2 (.int .i64) g2 (by show ([.string, .int .i64, .int .i64, .int .i64, .int .i64, .int .i64, .int .i64, .int .i64, .int .i64, .int .i64, .string] : List TK)[(j * 11 + 2) % 11]? = _; rw [show (j * 11 + 2) % 11 = 2 by omega]; rfl)
      obtain ⟨x3, g3⟩ : ∃ x, c[j * 11 + 3]? = some x := ⟨_, List.getElem?_eq_getElem (by omega)⟩
      have k3 := hc _ x3 (.int .i64) g3 (by show ([.string, .int .i64, .int .i64, .int .i64, .int .i64, .int .i64, .int .i64, .int .i64, .int .i64, .int .i64, .string] : List TK)[(j * 11 + 3) % 11]? = _; rw [show (j * 11 + 3) % 11 = 3 by omega]; rfl)
      obtain ⟨x4, g4⟩ : ∃ x, c[j * 11 + 4]? = some x := ⟨_, List.getElem?_eq_getElem (by omega)⟩
      have k4 := hc _ x4 (.int .i64) g4 (by show ([.string, .int .i64, .int .i64, .int .i64, .int .i64, .int .i64, .int .i64, .int .i64, .int .i64, .int .i64, .string] : List TK)[(j * 11 + 4) % 11]? = _; rw [show (j * 11 + 4) % 11 = 4 by omega]; rfl)
      obtain ⟨x5, g5⟩ : ∃ x, c[j * 11 + 5]? = some x := ⟨_, List.getElem?_eq_getElem (by omega)⟩
      have k5 := hc _ x5 (.int .i64) g5 (by show ([.string, .int .i64, .int .i64, .int .i64, .int .i64, .int .i64, .int .i64, .int .i64, .int .i64, .int .i64, .string] : List TK)[(j * 11 + 5) % 11]? = _; rw [show (j * 11 + 5) % 11 = 5 by omega]; rfl)
      obtain ⟨x6, g6⟩ : ∃ x, c[j * 11 + 6]? = some x := ⟨_, List.getElem?_eq_getElem (by omega)⟩
      have k6 := hc _ x6 (.int .i64) g6 (by show ([.string, .int .i64, .int .i64, .int .i64, .int .i64, .int .i64, .int .i64, .int .i64, .int .i64, .int .i64, .string] : List TK)[(j * 11 + 6) % 11]? = _; rw [show (j * 11 + 6) % 11 = 6 by omega]; rfl)
      obtain ⟨x7, g7⟩ : ∃ x, c[j * 11 + 7]? = some x := ⟨_, List.getElem?_eq_getElem (by omega)⟩
      have k7 := hc _ x7 (.int .i64) g7 (by show ([.string, .int .i64, .int .i64, .int .i64, .int .i64, .int .i64, .int .i64, .int .i64, .int .i64, .int .i64, .string] : List TK)[(j * 11 + 7) % 11]? = _; rw [show (j * 11 + 7) % 11 = 7 by omega]; rfl)
      obtain ⟨x8, g8⟩ : ∃ x, c[j * 11 + 8]? = some x := ⟨_, List.getElem?_eq_getElem (by omega)⟩
      have k8 := hc _ x8 (.int .i64) g8 (by show ([.string, .int .i64, .int .i64, .int .i64, .int .i64, .int .i64, .int .i64, .int .i64, .int .i64, .int .i64, .string] : List TK)[(j * 11 + 8) % 11]? = _; rw [show (j * 11 + 8) % 11 = 8 by omega]; rfl)
      obtain ⟨x9, g9⟩ : ∃ x, c[j * 11 + 9]? = some x := ⟨_, List.getElem?_eq_getElem (by omega)⟩
      have k9 := hc _ x9 (.int .i64) g9 (by show ([.string, .int .i64, .int .i64, .int .i64, .int .i64, .int .i64, .int .i64, .int .i64, .int .i64, .int .i64, .string] : List TK)[(j * 11 + 9) % 11]? = _; rw [show (j * 11 + 9) % 11 = 9 by omega]; rfl)
      obtain ⟨x10, g10⟩ : ∃ x, c[j * 11 + 10]? = some x := ⟨_, List.getElem?_eq_getElem (by omega)⟩
      have k10 := hc _ x10 (.string) g10 (by show ([.string, .int .i64, .int .i64, .int .i64, .int .i64, .int .i64, .int .i64, .int .i64, .int .i64, .int .i64, .string] : List TK)[(j * 11 + 10) % 11]? = _; rw [show (j * 11 + 10) % 11 = 10 by omega]; rfl)
      cases k0 with | str w0 =>
      cases k1 with | int w1 =>
      cases k2 with | int w2 =>
      cases k3 with | int w3 =>
      cases k4 with | int w4 =>
      cases k5 with | int w5 =>
      cases k6 with | int w6 =>
      cases k7 with | int w7 =>
      cases k8 with | int w8 =>
      cases k9 with | int w9 =>
      cases k10 with | str w10 =>
      refine ⟨⟨_, _, _, _, _, _, _, _, _, _, _⟩, ⟨(by rw [show c[j * 11]? = _ from g0]; rfl), (by rw [show c[j * 11 + 1]? = _ from g1]; rfl), (by rw [show c[j * 11 + 2]? = _ from g2]; rfl), (by rw [show c[j * 11 + 3]? = _ from g3]; rfl), (by rw [show c[j * 11 + 4]? = _ from g4]; rfl), (by rw [show c[j * 11 + 5]? = _ from g5]; rfl), (by rw [show c[j * 11 + 6]? = _ from g6]; rfl), (by rw [show c[j * 11 + 7]? = _ from g7]; rfl), (by rw [show c[j * 11 + 8]? = _ from g8]; rfl), (by rw [show c[j * 11 + 9]? = _ from g9]; rfl), (by rw [show c[j * 11 + 10]? = _ from g10]; rfl)⟩, ⟨w0, w1, w2, w3, w4, w5, w6, w7, w8, w9, w10⟩⟩
    have key : ∀ m, m ≤ n → ∃ rs : List Rul, rs.length = m ∧ (∀ i r, rs[i]? = some r → Rul.at c (i * 11) r) ∧ ∀ r ∈ rs, r.wf := by
      intro m
      induction m with
      | zero => intro _; exact ⟨[], rfl, fun i r h => by simp at h, fun r h => by cases h⟩
      | succ m ih =>
        intro hm
        obtain ⟨rs, h1, h2, h3⟩ := ih (by omega)
        obtain ⟨r, h4, h5⟩ := row m (by omega)
        refine ⟨rs ++ [r], by simp [h1], fun i r' hi => ?_, fun r' hr => ?_⟩
        · by_cases q : i < rs.length
          · rw [List.getElem?_append_left q] at hi; exact h2 i r' hi
          · rw [List.getElem?_append_right (by omega)] at hi
            have : i - rs.length = 0 := by
              rcases Nat.eq_zero_or_pos (i - rs.length) with e | e
              · exact e
              · rw [List.getElem?_eq_none (by simp; omega)] at hi; cases hi
            rw [this] at hi
            cases hi
            rw [show i = m by omega]; exact h4
        · rcases List.mem_append.1 hr with q | q
          · exact h3 r' q
          · rw [List.mem_singleton.1 q]; exact h5
    obtain ⟨rs, h1, h2, h3⟩ := key n (Nat.le_refl _)
    exact ⟨rs, h1.symm, hn, ⟨by rw [hl, h1], h2⟩, h3⟩
end Go.Proofs.Ytnfgmffcnmifkaa
