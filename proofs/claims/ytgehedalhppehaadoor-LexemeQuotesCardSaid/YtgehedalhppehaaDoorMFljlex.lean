/-
  Fields: the same both ways.
-/
import Derived.Test.YtgehedalhppehaaDoorMFlrlex
namespace Go.Proofs.YtgehedalhppehaaDoor
open Go.Ax Go.Lib
set_option linter.all false
set_option maxHeartbeats 4000000
set_option maxRecDepth 100000
attribute [local congr] cond_cong bind_cong onI_cong onB_cong onS_cong onN_cong onL_cong

theorem fs_begun {out f} {t : List UInt8} (h : ¬ stop t) : fs false false out f t = fs false true out f t := by
  cases t with
  | nil => exact absurd trivial h
  | cons c t =>
    have hc : 33 ≤ c.toNat ∧ c.toNat ≤ 126 ∧ c.toNat ≠ 35 := by
      by_cases q : 33 ≤ c.toNat ∧ c.toNat ≤ 126 ∧ c.toNat ≠ 35
      · exact q
      · exact absurd q h
    by_cases h34 : c.toNat = 34
    · rw [fs_quote h34, fs_quote h34]
    · rw [fs_byte (by omega) h34 (.inr (by omega)), fs_byte (by omega) h34 (.inr (by omega))]
theorem fs_stop {out f} {t : List UInt8} (h : stop t) : fs false true out f t = fs false false (out ++ [f]) [] t := by
  cases t with
  | nil => rfl
  | cons c t =>
    have hc : ¬ (33 ≤ c.toNat ∧ c.toNat ≤ 126 ∧ c.toNat ≠ 35) := h
    by_cases h35 : c.toNat = 35
    · rw [fs_hash h35, fs_hash h35]; rfl
    by_cases hg : c.toNat = 9 ∨ c.toNat = 32
    · rw [fs_gap hg, fs_gap hg]; rfl
    · rw [fs_bad (by omega) (.inl (by omega)), fs_bad (by omega) (.inl (by omega))]
theorem field_at {line : List UInt8} (p : List UInt8) : F_ref05_field [.s line, .i ((p.length : Nat) : Int)] = iter F_ref05_field_L0 [.s line, .i ((p.length : Nat) : Int), .s []] := by
  unfold F_ref05_field
  simp only [onI_c, onS_c, onB_c, onN_c, onL_c, Option.bind_some, Option.map_some, cond_true, cond_false, ↓onI_c, ↓onS_c, ↓onB_c, ↓onN_c, ↓onL_c, ↓Option.bind_some, ↓cond_true, ↓cond_false, decide_eq_true, decide_eq_false, Bool.not_true, Bool.not_false, Int.toNat_natCast, List.length_append, List.length_cons, List.length_nil, List.drop_zero, Nat.zero_add, Nat.add_zero, decT, decF, bneI_t, bneI_f]
def fR : Option (List (List UInt8)) → List (List UInt8) × Int
  | none => ([], 5)
  | some xs => (xs, 0)
theorem fieldsV_R (s : List UInt8) : fieldsV s = if 300 < s.length then ([], 6) else fR (fs false false [] [] s) := by
  unfold fieldsV
  split
  · rfl
  · cases fs false false [] [] s <;> rfl
theorem refFields_run {line : List UInt8} (hl : line.length ≤ 300) : ∀ (n : Nat) (t p : List UInt8) (out : List (List UInt8)) (cells : List AV), t.length ≤ n → line = p ++ t → strsOf cells = some out → out.length ≤ p.length →
    ∃ l xs e, iter F_ref05_Fields_L0 [.s line, .n out.length, .i ((p.length : Nat) : Int), .l cells] = some [.n xs.length, .l l, .i e] ∧ strsOf l = some xs ∧ (xs, e) = fR (fs false false out [] t) := by
  intro n
  induction n with
  | zero =>
    intro t p out cells hn ht ho h1
    have : t = [] := List.eq_nil_of_length_eq_zero (by omega)
    subst this
    have hlen : line.length = p.length := by rw [ht]; simp
    have hoc := strsOf_closed ho
    have hol := strsOf_len ho
    refine ⟨cells, out, 0, iter_end ?_, ho, rfl⟩
    unfold F_ref05_Fields_L0
    clear ho
    simp (disch := omega) only [onI_c, onS_c, onB_c, onN_c, onL_c, Option.bind_some, Option.map_some, cond_true, cond_false, ↓onI_c, ↓onS_c, ↓onB_c, ↓onN_c, ↓onL_c, ↓Option.bind_some, ↓cond_true, ↓cond_false, decide_eq_true, decide_eq_false, Bool.not_true, Bool.not_false, Int.toNat_natCast, List.length_append, List.length_cons, List.length_nil, List.drop_zero, Nat.zero_add, Nat.add_zero, decT, decF, bneI_t, bneI_f, Nat.mul_one, hoc]
  | succ n ih =>
    intro t p out cells hn ht ho h1
    have hoc := strsOf_closed ho
    have hol := strsOf_len ho
    cases t with
    | nil =>
      have hlen : line.length = p.length := by rw [ht]; simp
      refine ⟨cells, out, 0, iter_end ?_, ho, rfl⟩
      unfold F_ref05_Fields_L0
      clear ho
      simp (disch := omega) only [onI_c, onS_c, onB_c, onN_c, onL_c, Option.bind_some, Option.map_some, cond_true, cond_false, ↓onI_c, ↓onS_c, ↓onB_c, ↓onN_c, ↓onL_c, ↓Option.bind_some, ↓cond_true, ↓cond_false, decide_eq_true, decide_eq_false, Bool.not_true, Bool.not_false, Int.toNat_natCast, List.length_append, List.length_cons, List.length_nil, List.drop_zero, Nat.zero_add, Nat.add_zero, decT, decF, bneI_t, bneI_f, Nat.mul_one, hoc]
    | cons c t =>
      have hlen : line.length = p.length + (t.length + 1) := by rw [ht]; simp
      have hg : line.getD p.length 0 = c := by rw [ht]; exact getD_at p t c
      have hi : i64 (((p.length : Nat) : Int) + 1) = ((p.length + 1 : Nat) : Int) := by rw [i64_in _ (by omega)]; omega
      have hpl := plain_at c
      have hp2 : (p ++ [c]).length = p.length + 1 := by simp
      have ht2 : line = p ++ [c] ++ t := by rw [ht]; simp
      by_cases h35 : c.toNat = 35
      · rw [fs_hash h35]
        refine ⟨cells, out, 0, iter_end ?_, ho, rfl⟩
        unfold F_ref05_Fields_L0
        clear ho ih
        simp (disch := omega) only [onI_c, onS_c, onB_c, onN_c, onL_c, Option.bind_some, Option.map_some, cond_true, cond_false, ↓onI_c, ↓onS_c, ↓onB_c, ↓onN_c, ↓onL_c, ↓Option.bind_some, ↓cond_true, ↓cond_false, decide_eq_true, decide_eq_false, Bool.not_true, Bool.not_false, Int.toNat_natCast, List.length_append, List.length_cons, List.length_nil, List.drop_zero, Nat.zero_add, Nat.add_zero, decT, decF, bneI_t, bneI_f, Nat.mul_one, hoc, hg]
      by_cases hgap : c.toNat = 9 ∨ c.toNat = 32
      · rw [fs_gap hgap]
        have st : F_ref05_Fields_L0 [.s line, .n out.length, .i ((p.length : Nat) : Int), .l cells] = some (.inl [.s line, .n out.length, .i (((p ++ [c]).length : Nat) : Int), .l cells]) := by
          rw [hp2]
          unfold F_ref05_Fields_L0
          clear ho ih
          rcases hgap with h9 | h32
          · simp (disch := omega) only [onI_c, onS_c, onB_c, onN_c, onL_c, Option.bind_some, Option.map_some, cond_true, cond_false, ↓onI_c, ↓onS_c, ↓onB_c, ↓onN_c, ↓onL_c, ↓Option.bind_some, ↓cond_true, ↓cond_false, decide_eq_true, decide_eq_false, Bool.not_true, Bool.not_false, Int.toNat_natCast, List.length_append, List.length_cons, List.length_nil, List.drop_zero, Nat.zero_add, Nat.add_zero, decT, decF, bneI_t, bneI_f, hoc, hg, hi]
          · simp (disch := omega) only [onI_c, onS_c, onB_c, onN_c, onL_c, Option.bind_some, Option.map_some, cond_true, cond_false, ↓onI_c, ↓onS_c, ↓onB_c, ↓onN_c, ↓onL_c, ↓Option.bind_some, ↓cond_true, ↓cond_false, decide_eq_true, decide_eq_false, Bool.not_true, Bool.not_false, Int.toNat_natCast, List.length_append, List.length_cons, List.length_nil, List.drop_zero, Nat.zero_add, Nat.add_zero, decT, decF, bneI_t, bneI_f, hoc, hg, hi]
        obtain ⟨l, xs, e, k1, k2, k3⟩ := ih t (p ++ [c]) out cells (by simp at hn; omega) ht2 ho (by omega)
        exact ⟨l, xs, e, by rw [iter_next st, k1], k2, k3⟩
      by_cases hb : c.toNat < 32 ∨ 126 < c.toNat
      · rw [decide_eq_false (by omega)] at hpl
        rw [fs_bad hb (.inl (by omega))]
        refine ⟨[], [], 5, iter_end ?_, rfl, rfl⟩
        unfold F_ref05_Fields_L0
        have h34 : ¬ c.toNat = 34 := by omega
        clear ho ih
        simp (disch := omega) only [onI_c, onS_c, onB_c, onN_c, onL_c, Option.bind_some, Option.map_some, cond_true, cond_false, ↓onI_c, ↓onS_c, ↓onB_c, ↓onN_c, ↓onL_c, ↓Option.bind_some, ↓cond_true, ↓cond_false, decide_eq_true, decide_eq_false, Bool.not_true, Bool.not_false, Int.toNat_natCast, List.length_append, List.length_cons, List.length_nil, List.drop_zero, Nat.zero_add, Nat.add_zero, decT, decF, bneI_t, bneI_f, hoc, hg, hi, hpl]
      · have hst : ¬ stop (c :: t) := fun h => h ⟨by omega, by omega, h35⟩
        rcases field_run hl (c :: t).length (c :: t) p [] (Nat.le_refl _) ht (Nat.zero_le _) with ⟨s, p', r, k1, k2, k3, k4, k5, k6, k7⟩ | ⟨k1, k0, k2⟩
        · have k4 := k4 hst
          rw [← field_at] at k1
          have hlen2 : line.length = p'.length + r.length := by rw [k2]; simp
          have hc2 : strsOf (cells ++ [.str (.sym s)]) = some (out ++ [s]) := strsOf_append ho rfl
          have hcc := strsOf_closed hc2
          have st : F_ref05_Fields_L0 [.s line, .n out.length, .i ((p.length : Nat) : Int), .l cells] = some (.inl [.s line, .n (out ++ [s]).length, .i ((p'.length : Nat) : Int), .l (cells ++ [.str (.sym s)])]) := by
            rw [show (out ++ [s]).length = out.length + 1 by simp]
            unfold F_ref05_Fields_L0
            clear ho ih hc2 k7
            by_cases h34 : c.toNat = 34
            · rw [decide_eq_false (by omega)] at hpl
              simp (disch := omega) only [onI_c, onS_c, onB_c, onN_c, onL_c, Option.bind_some, Option.map_some, cond_true, cond_false, ↓onI_c, ↓onS_c, ↓onB_c, ↓onN_c, ↓onL_c, ↓Option.bind_some, ↓cond_true, ↓cond_false, decide_eq_true, decide_eq_false, Bool.not_true, Bool.not_false, Int.toNat_natCast, List.length_append, List.length_cons, List.length_nil, List.drop_zero, Nat.zero_add, Nat.add_zero, decT, decF, bneI_t, bneI_f, hcc, hg, hi, hpl, k1]
            · rw [decide_eq_true (by omega)] at hpl
              simp (disch := omega) only [onI_c, onS_c, onB_c, onN_c, onL_c, Option.bind_some, Option.map_some, cond_true, cond_false, ↓onI_c, ↓onS_c, ↓onB_c, ↓onN_c, ↓onL_c, ↓Option.bind_some, ↓cond_true, ↓cond_false, decide_eq_true, decide_eq_false, Bool.not_true, Bool.not_false, Int.toNat_natCast, List.length_append, List.length_cons, List.length_nil, List.drop_zero, Nat.zero_add, Nat.add_zero, decT, decF, bneI_t, bneI_f, hcc, hg, hi, hpl, k1]
          simp only [List.length_cons] at k4 hn
          obtain ⟨l, xs, e, m1, m2, m3⟩ := ih r p' (out ++ [s]) _ (by omega) k2 hc2 (by simp; omega)
          exact ⟨l, xs, e, by rw [iter_next st, m1], m2, by rw [fs_begun hst, k7, fs_stop k5]; exact m3⟩
        · rw [← field_at] at k1
          rw [k2]
          refine ⟨[], [], 5, iter_end ?_, rfl, rfl⟩
          unfold F_ref05_Fields_L0
          clear ho ih k2
          by_cases h34 : c.toNat = 34
          · rw [decide_eq_false (by omega)] at hpl
            simp (disch := omega) only [onI_c, onS_c, onB_c, onN_c, onL_c, Option.bind_some, Option.map_some, cond_true, cond_false, ↓onI_c, ↓onS_c, ↓onB_c, ↓onN_c, ↓onL_c, ↓Option.bind_some, ↓cond_true, ↓cond_false, decide_eq_true, decide_eq_false, Bool.not_true, Bool.not_false, Int.toNat_natCast, List.length_append, List.length_cons, List.length_nil, List.drop_zero, Nat.zero_add, Nat.add_zero, decT, decF, bneI_t, bneI_f, hg, hi, hpl, k1]
          · rw [decide_eq_true (by omega)] at hpl
            simp (disch := omega) only [onI_c, onS_c, onB_c, onN_c, onL_c, Option.bind_some, Option.map_some, cond_true, cond_false, ↓onI_c, ↓onS_c, ↓onB_c, ↓onN_c, ↓onL_c, ↓Option.bind_some, ↓cond_true, ↓cond_false, decide_eq_true, decide_eq_false, Bool.not_true, Bool.not_false, Int.toNat_natCast, List.length_append, List.length_cons, List.length_nil, List.drop_zero, Nat.zero_add, Nat.add_zero, decT, decF, bneI_t, bneI_f, hg, hi, hpl, k1]
theorem refFields_at (s : List UInt8) : ∃ l, F_ref05_Fields [.s s] = some [.n (fieldsV s).1.length, .l l, .i (fieldsV s).2] ∧ strsOf l = some (fieldsV s).1 := by
  rw [fieldsV_R]
  unfold F_ref05_Fields
  by_cases h : 300 < s.length
  · rw [if_pos h]
    refine ⟨[], ?_, rfl⟩
    simp (disch := omega) only [onI_c, onS_c, onB_c, onN_c, onL_c, Option.bind_some, Option.map_some, cond_true, cond_false, ↓onI_c, ↓onS_c, ↓onB_c, ↓onN_c, ↓onL_c, ↓Option.bind_some, ↓cond_true, ↓cond_false, decide_eq_true, decide_eq_false, Bool.not_true, Bool.not_false, Int.toNat_natCast, List.length_append, List.length_cons, List.length_nil, List.drop_zero, Nat.zero_add, Nat.add_zero, decT, decF, bneI_t, bneI_f]
  · rw [if_neg h]
    obtain ⟨l, xs, e, h1, h2, h3⟩ := refFields_run (line := s) (by omega) s.length s [] [] [] (Nat.le_refl _) rfl rfl (Nat.le_refl _)
    rw [← h3]
    refine ⟨l, ?_, h2⟩
    rw [← h1]
    simp (disch := omega) only [onI_c, onS_c, onB_c, onN_c, onL_c, Option.bind_some, Option.map_some, cond_true, cond_false, ↓onI_c, ↓onS_c, ↓onB_c, ↓onN_c, ↓onL_c, ↓Option.bind_some, ↓cond_true, ↓cond_false, decide_eq_true, decide_eq_false, Bool.not_true, Bool.not_false, Int.toNat_natCast, List.length_append, List.length_cons, List.length_nil, List.drop_zero, Nat.zero_add, Nat.add_zero, decT, decF, bneI_t, bneI_f]
    rfl
theorem fs_length : ∀ {t : List UInt8} {q bg : Bool} {out : List (List UInt8)} {f : List UInt8} {xs}, fs q bg out f t = some xs → xs.length ≤ out.length + t.length + 1
  | [], q, bg, out, f, xs, h => by
    rw [fs] at h
    split at h
    · cases h
    · cases h; unfold fl; split <;> simp
  | c :: t, q, bg, out, f, xs, h => by
    have hfl : (fl bg out f).length ≤ out.length + 1 := by unfold fl; split <;> simp
    rw [fs] at h
    split at h
    · cases h; simp; omega
    split at h
    · have := fs_length h; simp; omega
    split at h
    · split at h
      · cases h
      · have := fs_length h; simp; omega
    split at h
    · have := fs_length h; simp; omega
    split at h
    · cases h
    · have := fs_length h; simp; omega
theorem fieldsV_len (s : List UInt8) : (fieldsV s).1.length ≤ 400 := by
  unfold fieldsV
  split
  · simp
  · split
    · simp
    · rename_i h
      have := fs_length h
      simp at this ⊢; omega

/-! Lines out of fields. -/
def wrB (s : List UInt8) : Bool := s.all fun c => decide (32 ≤ c.toNat ∧ c.toNat ≤ 126 ∧ c.toNat ≠ 34)
def bareB (s : List UInt8) : Bool := !(s == []) && s.all fun c => decide (c.toNat ≠ 32 ∧ c.toNat ≠ 35)
def item (s : List UInt8) : List UInt8 := if bareB s = true then s else 34 :: s ++ [34]
def jn (first : Bool) : List (List UInt8) → List UInt8
  | [] => []
  | x :: xs => (if first then [] else [32]) ++ item x ++ jn false xs
def joinV (xs : List (List UInt8)) : List UInt8 × Int := if xs.all wrB = true then (if 300 < (jn true xs).length then ([], 6) else (jn true xs, 0)) else ([], 2)
theorem item_length (s : List UInt8) : (item s).length ≤ s.length + 2 := by unfold item; split <;> simp
theorem jn_first (xs : List (List UInt8)) : jn false xs = if xs = [] then [] else 32 :: jn true xs := by
  cases xs <;> simp [jn]

theorem writable_run (s : List UInt8) (hl : s.length < 4611686018427387904) : ∀ (t p : List UInt8), s = p ++ t → iter F_lexeme_writable_L0 [.s s, .i ((s.length : Nat) : Int), .i ((p.length : Nat) : Int)] = some [.b (wrB t)] := by
  intro t
  induction t with
  | nil =>
    intro p ht
    have hlen : s.length = p.length := by rw [ht]; simp
    refine iter_end ?_
    unfold F_lexeme_writable_L0
    simp (disch := omega) only [onI_c, onS_c, onB_c, onN_c, onL_c, Option.bind_some, Option.map_some, cond_true, cond_false, ↓onI_c, ↓onS_c, ↓onB_c, ↓onN_c, ↓onL_c, ↓Option.bind_some, ↓cond_true, ↓cond_false, decide_eq_true, decide_eq_false, Bool.not_true, Bool.not_false, Int.toNat_natCast, List.length_append, List.length_cons, List.length_nil, List.drop_zero, Nat.zero_add, Nat.add_zero, decT, decF, bneI_t, bneI_f]
    rfl
  | cons c t ih =>
    intro p ht
    have hlen : s.length = p.length + (t.length + 1) := by rw [ht]; simp
    have hg : s.getD p.length 0 = c := by rw [ht]; exact getD_at p t c
    have hi : i64 (((p.length : Nat) : Int) + 1) = ((p.length + 1 : Nat) : Int) := by rw [i64_in _ (by omega)]; omega
    have hp2 : (p ++ [c]).length = p.length + 1 := by simp
    have k := ih (p ++ [c]) (by rw [ht]; simp)
    rw [hp2] at k
    by_cases hc : 32 ≤ c.toNat ∧ c.toNat ≤ 126 ∧ c.toNat ≠ 34
    · have e : wrB (c :: t) = wrB t := by unfold wrB; rw [List.all_cons, decide_eq_true hc, Bool.true_and]
      rw [e, iter_next (y := [.s s, .i ((s.length : Nat) : Int), .i ((p.length + 1 : Nat) : Int)]), k]
      unfold F_lexeme_writable_L0
      clear ih k ht
      simp (disch := omega) only [onI_c, onS_c, onB_c, onN_c, onL_c, Option.bind_some, Option.map_some, cond_true, cond_false, ↓onI_c, ↓onS_c, ↓onB_c, ↓onN_c, ↓onL_c, ↓Option.bind_some, ↓cond_true, ↓cond_false, decide_eq_true, decide_eq_false, Bool.not_true, Bool.not_false, Int.toNat_natCast, List.length_append, List.length_cons, List.length_nil, List.drop_zero, Nat.zero_add, Nat.add_zero, decT, decF, bneI_t, bneI_f, hg, hi]
    · have e : wrB (c :: t) = false := by unfold wrB; rw [List.all_cons, decide_eq_false hc, Bool.false_and]
      rw [e]
      refine iter_end ?_
      unfold F_lexeme_writable_L0
      clear ih k ht
      by_cases h1 : c.toNat < 32
      · simp (disch := omega) only [onI_c, onS_c, onB_c, onN_c, onL_c, Option.bind_some, Option.map_some, cond_true, cond_false, ↓onI_c, ↓onS_c, ↓onB_c, ↓onN_c, ↓onL_c, ↓Option.bind_some, ↓cond_true, ↓cond_false, decide_eq_true, decide_eq_false, Bool.not_true, Bool.not_false, Int.toNat_natCast, List.length_append, List.length_cons, List.length_nil, List.drop_zero, Nat.zero_add, Nat.add_zero, decT, decF, bneI_t, bneI_f, hg, hi]
      · by_cases h2 : 126 < c.toNat
        · simp (disch := omega) only [onI_c, onS_c, onB_c, onN_c, onL_c, Option.bind_some, Option.map_some, cond_true, cond_false, ↓onI_c, ↓onS_c, ↓onB_c, ↓onN_c, ↓onL_c, ↓Option.bind_some, ↓cond_true, ↓cond_false, decide_eq_true, decide_eq_false, Bool.not_true, Bool.not_false, Int.toNat_natCast, List.length_append, List.length_cons, List.length_nil, List.drop_zero, Nat.zero_add, Nat.add_zero, decT, decF, bneI_t, bneI_f, hg, hi]
        · simp (disch := omega) only [onI_c, onS_c, onB_c, onN_c, onL_c, Option.bind_some, Option.map_some, cond_true, cond_false, ↓onI_c, ↓onS_c, ↓onB_c, ↓onN_c, ↓onL_c, ↓Option.bind_some, ↓cond_true, ↓cond_false, decide_eq_true, decide_eq_false, Bool.not_true, Bool.not_false, Int.toNat_natCast, List.length_append, List.length_cons, List.length_nil, List.drop_zero, Nat.zero_add, Nat.add_zero, decT, decF, bneI_t, bneI_f, hg, hi]
theorem writable_at (s : List UInt8) (hl : s.length < 4611686018427387904) : F_lexeme_writable [.s s] = some [.b (wrB s)] := by
  have h := writable_run s hl s [] rfl
  unfold F_lexeme_writable
  simp only [onI_c, onS_c, onB_c, onN_c, onL_c, Option.bind_some, Option.map_some, cond_true, cond_false, ↓onI_c, ↓onS_c, ↓onB_c, ↓onN_c, ↓onL_c, ↓Option.bind_some, ↓cond_true, ↓cond_false, decide_eq_true, decide_eq_false, Bool.not_true, Bool.not_false, Int.toNat_natCast, List.length_append, List.length_cons, List.length_nil, List.drop_zero, Nat.zero_add, Nat.add_zero, decT, decF, bneI_t, bneI_f]
  exact h
theorem indexAny_neg (chars : List UInt8) : ∀ s : List UInt8, (0 ≤ indexAny s chars) = (s.any chars.contains = true)
  | [] => by simp [indexAny]
  | b :: l => by
    have ih := indexAny_neg chars l
    have hge := indexAny_ge chars l
    unfold indexAny
    by_cases hb : chars.contains b = true
    · rw [if_pos hb, List.any_cons, hb]; simp
    · rw [if_neg hb]
      have hb' : chars.contains b = false := by simpa using hb
      rw [List.any_cons, hb', Bool.false_or, ← ih]
      by_cases h1 : (indexAny l chars == -1) = true
      · rw [if_pos h1]
        have : indexAny l chars = -1 := eq_of_beq h1
        rw [this]
      · rw [if_neg h1]
        have : indexAny l chars ≠ -1 := fun e => h1 (by rw [e]; rfl)
        apply propext
        constructor <;> intro h <;> omega
theorem contains_bare {s : List UInt8} (hs : s ≠ []) : containsAny s [32, 35] = !bareB s := by
  have e1 : (s == []) = false := beq_f hs
  unfold containsAny bareB
  rw [e1]
  have : decide (0 ≤ indexAny s [32, 35]) = s.any ([32, 35] : List UInt8).contains := by
    rw [Bool.eq_iff_iff, decide_eq_true_iff, indexAny_neg]
  rw [this]
  clear this e1 hs
  induction s with
  | nil => rfl
  | cons c s ih =>
    rw [List.any_cons, List.all_cons, ih]
    have hc : ([32, 35] : List UInt8).contains c = !decide (c.toNat ≠ 32 ∧ c.toNat ≠ 35) := by
      by_cases h : c.toNat ≠ 32 ∧ c.toNat ≠ 35
      · rw [decide_eq_true h]
        have h1 : c ≠ 32 := fun e => h.1 (by rw [e]; rfl)
        have h2 : c ≠ 35 := fun e => h.2 (by rw [e]; rfl)
        simp [h1, h2]
      · rw [decide_eq_false h]
        have : c = 32 ∨ c = 35 := by
          by_cases h32 : c.toNat = 32
          · exact .inl (UInt8.toNat_inj.1 h32)
          · exact .inr (UInt8.toNat_inj.1 (by show c.toNat = 35; omega))
        rcases this with h | h <;> rw [h] <;> rfl
    rw [hc]
    cases decide (c.toNat ≠ 32 ∧ c.toNat ≠ 35) <;> simp
theorem ascii_wr {s : List UInt8} (h : wrB s = true) : asciiB s = true := by
  unfold wrB at h
  unfold asciiB
  rw [List.all_eq_true] at h ⊢
  intro c hc
  have := of_decide_eq_true (h c hc)
  exact decide_eq_true (by omega)
theorem ca_at {s : List UInt8} (h : wrB s = true) (hs : s ≠ []) (hl : s.length < 4294967281) : strContainsAny [.s s, .s [32, 35]] = some [.b (!bareB s)] := by
  unfold strContainsAny
  simp only [onS_c]
  rw [if_pos ⟨hl, by simp, ascii_wr h, rfl⟩, contains_bare hs]
end Go.Proofs.YtgehedalhppehaaDoor
