/-
  Fields: both ways to read them.
-/
import Derived.Test.YtgehedalhppehaaDoorMLtelex
namespace Go.Proofs.YtgehedalhppehaaDoor
open Go.Ax Go.Lib
set_option linter.all false
set_option maxHeartbeats 4000000
set_option maxRecDepth 100000
attribute [local congr] cond_cong bind_cong onI_cong onB_cong onS_cong onN_cong onL_cong

theorem bytesOf_closed : ∀ {l : List AV} {s : List UInt8}, Ax.bytesOf l = some s → l.all (closedN 20) = true ∧ l.length = s.length
  | [], s, h => by cases h; exact ⟨rfl, rfl⟩
  | x :: l, s, h => by
    unfold Ax.bytesOf at h
    split at h
    · rename_i e; cases e
    · rename_i n l' e
      cases e
      simp only [Option.map_eq_some_iff] at h
      obtain ⟨s', h1, rfl⟩ := h
      obtain ⟨h2, h3⟩ := bytesOf_closed h1
      exact ⟨by rw [List.all_cons, h2]; rfl, by simp [h3]⟩
    · cases h
theorem bytesOf_append : ∀ {l m : List AV} {s t : List UInt8}, Ax.bytesOf l = some s → Ax.bytesOf m = some t → Ax.bytesOf (l ++ m) = some (s ++ t)
  | [], m, s, t, h, k => by cases h; simpa using k
  | x :: l, m, s, t, h, k => by
    unfold Ax.bytesOf at h
    split at h
    · rename_i e; cases e
    · rename_i n l' e
      cases e
      simp only [Option.map_eq_some_iff] at h
      obtain ⟨s', h1, rfl⟩ := h
      rw [List.cons_append, bytesOf_cons, bytesOf_append h1 k]; rfl
    · cases h
theorem bytesOf_byte (c : UInt8) : Ax.bytesOf [AV.int .u8 (.sym ((c.toNat : Nat) : Int))] = some [c] := by
  rw [bytesOf_cons, bytesOf_nil]
  simp [Ax.I.v]
theorem bytesOf_cells (s : List UInt8) : Ax.bytesOf (byteCells s) = some s := by
  induction s with
  | nil => rfl
  | cons c s ih =>
    show Ax.bytesOf (AV.int .u8 (.lit ((c.toNat : Nat) : Int)) :: byteCells s) = _
    rw [bytesOf_cons, ih]
    simp [Ax.I.v]

/-- A field's end. -/
def fl (bg : Bool) (out : List (List UInt8)) (f : List UInt8) : List (List UInt8) := if bg then out ++ [f] else out
/-- The fields of a line: in quotes or not, a field is begun or not, the fields before, the field's bytes. -/
def fs (q bg : Bool) (out : List (List UInt8)) (f : List UInt8) : List UInt8 → Option (List (List UInt8))
  | [] => if q then none else some (fl bg out f)
  | c :: t =>
    if c.toNat = 35 ∧ q = false then some (fl bg out f)
    else if c.toNat = 34 then fs (!q) true out f t
    else if c.toNat = 9 then if q then none else fs q false (fl bg out f) [] t
    else if c.toNat = 32 ∧ q = false then fs q false (fl bg out f) [] t
    else if c.toNat < 32 ∨ 126 < c.toNat then none
    else fs q true out (f ++ [c]) t
def fieldsV (s : List UInt8) : List (List UInt8) × Int := if 300 < s.length then ([], 6) else match fs false false [] [] s with
  | none => ([], 5)
  | some xs => (xs, 0)
theorem fs_hash {bg out f c t} (h : c.toNat = 35) : fs false bg out f (c :: t) = some (fl bg out f) := by rw [fs, if_pos ⟨h, rfl⟩]
theorem fs_quote {q bg out f c t} (h : c.toNat = 34) : fs q bg out f (c :: t) = fs (!q) true out f t := by rw [fs, if_neg (by omega), if_pos h]
theorem fs_gap {bg out f c t} (h : c.toNat = 9 ∨ c.toNat = 32) : fs false bg out f (c :: t) = fs false false (fl bg out f) [] t := by
  rw [fs, if_neg (by omega), if_neg (by omega)]
  rcases h with h | h
  · rw [if_pos h]; rfl
  · rw [if_neg (by omega), if_pos ⟨h, rfl⟩]
theorem fs_tabq {bg out f c t} (h : c.toNat = 9) : fs true bg out f (c :: t) = none := by
  rw [fs, if_neg (by simp), if_neg (by omega), if_pos h]; rfl
theorem fs_bad {q bg out f c t} (h1 : c.toNat < 32 ∨ 126 < c.toNat) (h2 : c.toNat ≠ 9 ∨ q = true) : fs q bg out f (c :: t) = none := by
  rw [fs, if_neg (by omega), if_neg (by omega)]
  by_cases h9 : c.toNat = 9
  · rw [if_pos h9]
    rcases h2 with h2 | h2
    · exact absurd h9 h2
    · rw [h2]; rfl
  · rw [if_neg h9, if_neg (by omega), if_pos h1]
theorem fs_byte {q bg out f c t} (h1 : 32 ≤ c.toNat ∧ c.toNat ≤ 126) (h2 : c.toNat ≠ 34) (h3 : q = true ∨ (c.toNat ≠ 32 ∧ c.toNat ≠ 35)) : fs q bg out f (c :: t) = fs q true out (f ++ [c]) t := by
  have hq : q = true ∨ q = false := by cases q <;> simp
  rw [fs, if_neg (by rintro ⟨a, b⟩; rcases h3 with h3 | h3; rw [h3] at b; cases b; exact h3.2 a), if_neg h2, if_neg (by omega), if_neg (by rintro ⟨a, b⟩; rcases h3 with h3 | h3; rw [h3] at b; cases b; exact h3.1 a), if_neg (by omega)]

theorem getD_at (p t : List UInt8) (c : UInt8) : (p ++ c :: t).getD p.length 0 = c := by simp [List.getD]

set_option maxHeartbeats 8000000 in
theorem fields_run {line : List UInt8} (hl : line.length ≤ 300) : ∀ (t p f : List UInt8) (q bg : Bool) (out : List (List UInt8)) (co cf : List AV), line = p ++ t → strsOf co = some out → Ax.bytesOf cf = some f → out.length ≤ p.length → f.length ≤ p.length →
    ∃ l xs e, iter F_lexeme_Fields_L0 [.s line, .b q, .i ((line.length : Nat) : Int), .i ((p.length : Nat) : Int), .n out.length, .n f.length, .b bg, .l co, .l cf] = some [.n xs.length, .l l, .i e] ∧ strsOf l = some xs ∧ (xs, e) = (match fs q bg out f t with | none => ([], 5) | some xs => (xs, 0)) := by
  intro t
  induction t with
  | nil =>
    intro p f q bg out co cf ht ho hf h1 h2
    have hlen : line.length = p.length := by rw [ht]; simp
    have hoc := strsOf_closed ho
    have hol := strsOf_len ho
    obtain ⟨hfc, hfl⟩ := bytesOf_closed hf
    have ho2 : strsOf (co ++ [.str (.sym f)]) = some (out ++ [f]) := strsOf_append ho rfl
    have ho2c := strsOf_closed ho2
    have e1 : List.take (out.length + 1) (co ++ [AV.str (.sym f)]) = co ++ [.str (.sym f)] := List.take_of_length_le (by simp; omega)
    rw [fs]
    cases q with
    | true =>
      refine ⟨[], [], 5, iter_end ?_, rfl, rfl⟩
      unfold F_lexeme_Fields_L0
      clear ho hf ho2
      simp (disch := omega) only [onI_c, onS_c, onB_c, onN_c, onL_c, Option.bind_some, Option.map_some, cond_true, cond_false, ↓onI_c, ↓onS_c, ↓onB_c, ↓onN_c, ↓onL_c, ↓Option.bind_some, ↓cond_true, ↓cond_false, decide_eq_true, decide_eq_false, Bool.not_true, Bool.not_false, Int.toNat_natCast, List.length_append, List.length_cons, List.length_nil, List.drop_zero, Nat.zero_add, Nat.add_zero, decT, decF, bneI_t, bneI_f]
    | false =>
      cases bg with
      | true =>
        refine ⟨co ++ [.str (.sym f)], out ++ [f], 0, iter_end ?_, ho2, rfl⟩
        unfold F_lexeme_Fields_L0
        rw [List.length_append, List.length_singleton]
        clear ho ho2
        simp (disch := omega) only [onI_c, onS_c, onB_c, onN_c, onL_c, Option.bind_some, Option.map_some, cond_true, cond_false, ↓onI_c, ↓onS_c, ↓onB_c, ↓onN_c, ↓onL_c, ↓Option.bind_some, ↓cond_true, ↓cond_false, decide_eq_true, decide_eq_false, Bool.not_true, Bool.not_false, Int.toNat_natCast, List.length_append, List.length_cons, List.length_nil, List.drop_zero, Nat.zero_add, Nat.add_zero, decT, decF, bneI_t, bneI_f, Nat.mul_one, hf, e1, ho2c]
      | false =>
        refine ⟨co, out, 0, iter_end ?_, ho, rfl⟩
        unfold F_lexeme_Fields_L0
        clear ho ho2
        simp (disch := omega) only [onI_c, onS_c, onB_c, onN_c, onL_c, Option.bind_some, Option.map_some, cond_true, cond_false, ↓onI_c, ↓onS_c, ↓onB_c, ↓onN_c, ↓onL_c, ↓Option.bind_some, ↓cond_true, ↓cond_false, decide_eq_true, decide_eq_false, Bool.not_true, Bool.not_false, Int.toNat_natCast, List.length_append, List.length_cons, List.length_nil, List.drop_zero, Nat.zero_add, Nat.add_zero, decT, decF, bneI_t, bneI_f, Nat.mul_one, hf, hoc]
  | cons c t ih =>
    intro p f q bg out co cf ht ho hf h1 h2
    have hlen : line.length = p.length + (t.length + 1) := by rw [ht]; simp
    have hg : line.getD p.length 0 = c := by rw [ht]; exact getD_at p t c
    have hi : i64 (((p.length : Nat) : Int) + 1) = ((p.length + 1 : Nat) : Int) := by rw [i64_in _ (by omega)]; omega
    have hoc := strsOf_closed ho
    have hol := strsOf_len ho
    obtain ⟨hfc, hfl⟩ := bytesOf_closed hf
    have ho2 : strsOf (co ++ [.str (.sym f)]) = some (out ++ [f]) := strsOf_append ho rfl
    have ho2c := strsOf_closed ho2
    have hf2 : Ax.bytesOf (cf ++ [.int .u8 (.sym ((c.toNat : Nat) : Int))]) = some (f ++ [c]) := bytesOf_append hf (bytesOf_byte c)
    obtain ⟨hf2c, _⟩ := bytesOf_closed hf2
    have e1 : List.take (out.length + 1) (co ++ [AV.str (.sym f)]) = co ++ [.str (.sym f)] := List.take_of_length_le (by simp; omega)
    have hp2 : (p ++ [c]).length = p.length + 1 := by simp
    have ht2 : line = p ++ [c] ++ t := by rw [ht]; simp
    have go : ∀ (q' bg' : Bool) (out' : List (List UInt8)) (f' : List UInt8) (co' cf' : List AV), strsOf co' = some out' → Ax.bytesOf cf' = some f' → out'.length ≤ p.length + 1 → f'.length ≤ p.length + 1 →
        F_lexeme_Fields_L0 [.s line, .b q, .i ((line.length : Nat) : Int), .i ((p.length : Nat) : Int), .n out.length, .n f.length, .b bg, .l co, .l cf] = some (.inl [.s line, .b q', .i ((line.length : Nat) : Int), .i ((p.length + 1 : Nat) : Int), .n out'.length, .n f'.length, .b bg', .l co', .l cf']) →
        fs q bg out f (c :: t) = fs q' bg' out' f' t →
        ∃ l xs e, iter F_lexeme_Fields_L0 [.s line, .b q, .i ((line.length : Nat) : Int), .i ((p.length : Nat) : Int), .n out.length, .n f.length, .b bg, .l co, .l cf] = some [.n xs.length, .l l, .i e] ∧ strsOf l = some xs ∧ (xs, e) = (match fs q bg out f (c :: t) with | none => ([], 5) | some xs => (xs, 0)) := by
      intro q' bg' out' f' co' cf' k1 k2 k3 k4 k5 k6
      obtain ⟨l, xs, e, m1, m2, m3⟩ := ih (p ++ [c]) f' q' bg' out' co' cf' ht2 k1 k2 (by omega) (by omega)
      rw [hp2] at m1
      exact ⟨l, xs, e, by rw [iter_next k5, m1], m2, by rw [k6]; exact m3⟩
    have bad : fs q bg out f (c :: t) = none → F_lexeme_Fields_L0 [.s line, .b q, .i ((line.length : Nat) : Int), .i ((p.length : Nat) : Int), .n out.length, .n f.length, .b bg, .l co, .l cf] = some (.inr [.n 0, .l [], .i 5]) →
        ∃ l xs e, iter F_lexeme_Fields_L0 [.s line, .b q, .i ((line.length : Nat) : Int), .i ((p.length : Nat) : Int), .n out.length, .n f.length, .b bg, .l co, .l cf] = some [.n xs.length, .l l, .i e] ∧ strsOf l = some xs ∧ (xs, e) = (match fs q bg out f (c :: t) with | none => ([], 5) | some xs => (xs, 0)) :=
      fun k1 k2 => ⟨[], [], 5, iter_end k2, rfl, by rw [k1]⟩
    by_cases hq34 : c.toNat = 34
    · refine go (!q) true out f co cf ho hf (by omega) (by omega) ?_ (fs_quote hq34)
      unfold F_lexeme_Fields_L0
      clear ho hf ho2 hf2 go bad ih
      simp (disch := omega) only [onI_c, onS_c, onB_c, onN_c, onL_c, Option.bind_some, Option.map_some, cond_true, cond_false, ↓onI_c, ↓onS_c, ↓onB_c, ↓onN_c, ↓onL_c, ↓Option.bind_some, ↓cond_true, ↓cond_false, decide_eq_true, decide_eq_false, Bool.not_true, Bool.not_false, Int.toNat_natCast, List.length_append, List.length_cons, List.length_nil, List.drop_zero, Nat.zero_add, Nat.add_zero, decT, decF, bneI_t, bneI_f, hg, hi, hoc, hfc]
    by_cases h9 : c.toNat = 9
    · cases q with
      | true =>
        refine bad (fs_tabq h9) ?_
        unfold F_lexeme_Fields_L0
        clear ho hf ho2 hf2 go bad ih
        simp (disch := omega) only [onI_c, onS_c, onB_c, onN_c, onL_c, Option.bind_some, Option.map_some, cond_true, cond_false, ↓onI_c, ↓onS_c, ↓onB_c, ↓onN_c, ↓onL_c, ↓Option.bind_some, ↓cond_true, ↓cond_false, decide_eq_true, decide_eq_false, Bool.not_true, Bool.not_false, Int.toNat_natCast, List.length_append, List.length_cons, List.length_nil, List.drop_zero, Nat.zero_add, Nat.add_zero, decT, decF, bneI_t, bneI_f, hg, hi, hoc, hfc]
      | false =>
        cases bg with
        | true =>
          refine go false false (out ++ [f]) [] (co ++ [.str (.sym f)]) [] ho2 rfl (by simp; omega) (by simp) ?_ (fs_gap (.inl h9))
          unfold F_lexeme_Fields_L0
          rw [List.length_append, List.length_singleton]
          clear ho ho2 hf2 go bad ih
          simp (disch := omega) only [onI_c, onS_c, onB_c, onN_c, onL_c, Option.bind_some, Option.map_some, cond_true, cond_false, ↓onI_c, ↓onS_c, ↓onB_c, ↓onN_c, ↓onL_c, ↓Option.bind_some, ↓cond_true, ↓cond_false, decide_eq_true, decide_eq_false, Bool.not_true, Bool.not_false, Int.toNat_natCast, List.length_append, List.length_cons, List.length_nil, List.drop_zero, Nat.zero_add, Nat.add_zero, decT, decF, bneI_t, bneI_f, hg, hi, hoc, hfc, hf, ho2c]
        | false =>
          refine go false false out [] co [] ho rfl (by omega) (by simp) ?_ (fs_gap (.inl h9))
          unfold F_lexeme_Fields_L0
          clear ho hf ho2 hf2 go bad ih
          simp (disch := omega) only [onI_c, onS_c, onB_c, onN_c, onL_c, Option.bind_some, Option.map_some, cond_true, cond_false, ↓onI_c, ↓onS_c, ↓onB_c, ↓onN_c, ↓onL_c, ↓Option.bind_some, ↓cond_true, ↓cond_false, decide_eq_true, decide_eq_false, Bool.not_true, Bool.not_false, Int.toNat_natCast, List.length_append, List.length_cons, List.length_nil, List.drop_zero, Nat.zero_add, Nat.add_zero, decT, decF, bneI_t, bneI_f, hg, hi, hoc, hfc]
    cases q with
    | true =>
      by_cases hb : c.toNat < 32 ∨ 126 < c.toNat
      · refine bad (fs_bad hb (.inr rfl)) ?_
        unfold F_lexeme_Fields_L0
        clear ho hf ho2 hf2 go bad ih
        by_cases h35 : c.toNat = 35
        · omega
        by_cases h32 : c.toNat = 32
        · omega
        rcases hb with hb | hb
        · simp (disch := omega) only [onI_c, onS_c, onB_c, onN_c, onL_c, Option.bind_some, Option.map_some, cond_true, cond_false, ↓onI_c, ↓onS_c, ↓onB_c, ↓onN_c, ↓onL_c, ↓Option.bind_some, ↓cond_true, ↓cond_false, decide_eq_true, decide_eq_false, Bool.not_true, Bool.not_false, Int.toNat_natCast, List.length_append, List.length_cons, List.length_nil, List.drop_zero, Nat.zero_add, Nat.add_zero, decT, decF, bneI_t, bneI_f, hg, hi, hoc, hfc]
        · simp (disch := omega) only [onI_c, onS_c, onB_c, onN_c, onL_c, Option.bind_some, Option.map_some, cond_true, cond_false, ↓onI_c, ↓onS_c, ↓onB_c, ↓onN_c, ↓onL_c, ↓Option.bind_some, ↓cond_true, ↓cond_false, decide_eq_true, decide_eq_false, Bool.not_true, Bool.not_false, Int.toNat_natCast, List.length_append, List.length_cons, List.length_nil, List.drop_zero, Nat.zero_add, Nat.add_zero, decT, decF, bneI_t, bneI_f, hg, hi, hoc, hfc]
      · refine go true true out (f ++ [c]) co (cf ++ [.int .u8 (.sym ((c.toNat : Nat) : Int))]) ho hf2 (by omega) (by simp; omega) ?_ (fs_byte (by omega) hq34 (.inl rfl))
        unfold F_lexeme_Fields_L0
        rw [show (f ++ [c]).length = f.length + 1 by simp]
        clear ho hf ho2 hf2 go bad ih
        by_cases h35 : c.toNat = 35
        · simp (disch := omega) only [onI_c, onS_c, onB_c, onN_c, onL_c, Option.bind_some, Option.map_some, cond_true, cond_false, ↓onI_c, ↓onS_c, ↓onB_c, ↓onN_c, ↓onL_c, ↓Option.bind_some, ↓cond_true, ↓cond_false, decide_eq_true, decide_eq_false, Bool.not_true, Bool.not_false, Int.toNat_natCast, List.length_append, List.length_cons, List.length_nil, List.drop_zero, Nat.zero_add, Nat.add_zero, decT, decF, bneI_t, bneI_f, hg, hi, hoc, hf2c]
        · by_cases h32 : c.toNat = 32
          · simp (disch := omega) only [onI_c, onS_c, onB_c, onN_c, onL_c, Option.bind_some, Option.map_some, cond_true, cond_false, ↓onI_c, ↓onS_c, ↓onB_c, ↓onN_c, ↓onL_c, ↓Option.bind_some, ↓cond_true, ↓cond_false, decide_eq_true, decide_eq_false, Bool.not_true, Bool.not_false, Int.toNat_natCast, List.length_append, List.length_cons, List.length_nil, List.drop_zero, Nat.zero_add, Nat.add_zero, decT, decF, bneI_t, bneI_f, hg, hi, hoc, hf2c]
          · simp (disch := omega) only [onI_c, onS_c, onB_c, onN_c, onL_c, Option.bind_some, Option.map_some, cond_true, cond_false, ↓onI_c, ↓onS_c, ↓onB_c, ↓onN_c, ↓onL_c, ↓Option.bind_some, ↓cond_true, ↓cond_false, decide_eq_true, decide_eq_false, Bool.not_true, Bool.not_false, Int.toNat_natCast, List.length_append, List.length_cons, List.length_nil, List.drop_zero, Nat.zero_add, Nat.add_zero, decT, decF, bneI_t, bneI_f, hg, hi, hoc, hf2c]
    | false =>
      by_cases h35 : c.toNat = 35
      · rw [fs_hash h35]
        cases bg with
        | true =>
          refine ⟨co ++ [.str (.sym f)], out ++ [f], 0, iter_end ?_, ho2, rfl⟩
          unfold F_lexeme_Fields_L0
          rw [List.length_append, List.length_singleton]
          clear ho ho2 hf2 go bad ih
          simp (disch := omega) only [onI_c, onS_c, onB_c, onN_c, onL_c, Option.bind_some, Option.map_some, cond_true, cond_false, ↓onI_c, ↓onS_c, ↓onB_c, ↓onN_c, ↓onL_c, ↓Option.bind_some, ↓cond_true, ↓cond_false, decide_eq_true, decide_eq_false, Bool.not_true, Bool.not_false, Int.toNat_natCast, List.length_append, List.length_cons, List.length_nil, List.drop_zero, Nat.zero_add, Nat.add_zero, decT, decF, bneI_t, bneI_f, hg, Nat.mul_one, hf, e1, ho2c]
        | false =>
          refine ⟨co, out, 0, iter_end ?_, ho, rfl⟩
          unfold F_lexeme_Fields_L0
          clear ho ho2 hf2 go bad ih
          simp (disch := omega) only [onI_c, onS_c, onB_c, onN_c, onL_c, Option.bind_some, Option.map_some, cond_true, cond_false, ↓onI_c, ↓onS_c, ↓onB_c, ↓onN_c, ↓onL_c, ↓Option.bind_some, ↓cond_true, ↓cond_false, decide_eq_true, decide_eq_false, Bool.not_true, Bool.not_false, Int.toNat_natCast, List.length_append, List.length_cons, List.length_nil, List.drop_zero, Nat.zero_add, Nat.add_zero, decT, decF, bneI_t, bneI_f, hg, Nat.mul_one, hf, hoc]
      by_cases h32 : c.toNat = 32
      · cases bg with
        | true =>
          refine go false false (out ++ [f]) [] (co ++ [.str (.sym f)]) [] ho2 rfl (by simp; omega) (by simp) ?_ (fs_gap (.inr h32))
          unfold F_lexeme_Fields_L0
          rw [List.length_append, List.length_singleton]
          clear ho ho2 hf2 go bad ih
          simp (disch := omega) only [onI_c, onS_c, onB_c, onN_c, onL_c, Option.bind_some, Option.map_some, cond_true, cond_false, ↓onI_c, ↓onS_c, ↓onB_c, ↓onN_c, ↓onL_c, ↓Option.bind_some, ↓cond_true, ↓cond_false, decide_eq_true, decide_eq_false, Bool.not_true, Bool.not_false, Int.toNat_natCast, List.length_append, List.length_cons, List.length_nil, List.drop_zero, Nat.zero_add, Nat.add_zero, decT, decF, bneI_t, bneI_f, hg, hi, hoc, hfc, hf, ho2c]
        | false =>
          refine go false false out [] co [] ho rfl (by omega) (by simp) ?_ (fs_gap (.inr h32))
          unfold F_lexeme_Fields_L0
          clear ho hf ho2 hf2 go bad ih
          simp (disch := omega) only [onI_c, onS_c, onB_c, onN_c, onL_c, Option.bind_some, Option.map_some, cond_true, cond_false, ↓onI_c, ↓onS_c, ↓onB_c, ↓onN_c, ↓onL_c, ↓Option.bind_some, ↓cond_true, ↓cond_false, decide_eq_true, decide_eq_false, Bool.not_true, Bool.not_false, Int.toNat_natCast, List.length_append, List.length_cons, List.length_nil, List.drop_zero, Nat.zero_add, Nat.add_zero, decT, decF, bneI_t, bneI_f, hg, hi, hoc, hfc]
      by_cases hb : c.toNat < 32 ∨ 126 < c.toNat
      · refine bad (fs_bad hb (.inl h9)) ?_
        unfold F_lexeme_Fields_L0
        clear ho hf ho2 hf2 go bad ih
        rcases hb with hb | hb
        · simp (disch := omega) only [onI_c, onS_c, onB_c, onN_c, onL_c, Option.bind_some, Option.map_some, cond_true, cond_false, ↓onI_c, ↓onS_c, ↓onB_c, ↓onN_c, ↓onL_c, ↓Option.bind_some, ↓cond_true, ↓cond_false, decide_eq_true, decide_eq_false, Bool.not_true, Bool.not_false, Int.toNat_natCast, List.length_append, List.length_cons, List.length_nil, List.drop_zero, Nat.zero_add, Nat.add_zero, decT, decF, bneI_t, bneI_f, hg, hi, hoc, hfc]
        · simp (disch := omega) only [onI_c, onS_c, onB_c, onN_c, onL_c, Option.bind_some, Option.map_some, cond_true, cond_false, ↓onI_c, ↓onS_c, ↓onB_c, ↓onN_c, ↓onL_c, ↓Option.bind_some, ↓cond_true, ↓cond_false, decide_eq_true, decide_eq_false, Bool.not_true, Bool.not_false, Int.toNat_natCast, List.length_append, List.length_cons, List.length_nil, List.drop_zero, Nat.zero_add, Nat.add_zero, decT, decF, bneI_t, bneI_f, hg, hi, hoc, hfc]
      · refine go false true out (f ++ [c]) co (cf ++ [.int .u8 (.sym ((c.toNat : Nat) : Int))]) ho hf2 (by omega) (by simp; omega) ?_ (fs_byte (by omega) hq34 (.inr ⟨h32, h35⟩))
        unfold F_lexeme_Fields_L0
        rw [show (f ++ [c]).length = f.length + 1 by simp]
        clear ho hf ho2 hf2 go bad ih
        simp (disch := omega) only [onI_c, onS_c, onB_c, onN_c, onL_c, Option.bind_some, Option.map_some, cond_true, cond_false, ↓onI_c, ↓onS_c, ↓onB_c, ↓onN_c, ↓onL_c, ↓Option.bind_some, ↓cond_true, ↓cond_false, decide_eq_true, decide_eq_false, Bool.not_true, Bool.not_false, Int.toNat_natCast, List.length_append, List.length_cons, List.length_nil, List.drop_zero, Nat.zero_add, Nat.add_zero, decT, decF, bneI_t, bneI_f, hg, hi, hoc, hf2c]
theorem fields_at (s : List UInt8) (hs : s.length < 4611686018427387904) : ∃ l, F_lexeme_Fields [.s s] = some [.n (fieldsV s).1.length, .l l, .i (fieldsV s).2] ∧ strsOf l = some (fieldsV s).1 := by
  unfold fieldsV F_lexeme_Fields
  by_cases h : 300 < s.length
  · rw [if_pos h]
    refine ⟨[], ?_, rfl⟩
    simp (disch := omega) only [onI_c, onS_c, onB_c, onN_c, onL_c, Option.bind_some, Option.map_some, cond_true, cond_false, ↓onI_c, ↓onS_c, ↓onB_c, ↓onN_c, ↓onL_c, ↓Option.bind_some, ↓cond_true, ↓cond_false, decide_eq_true, decide_eq_false, Bool.not_true, Bool.not_false, Int.toNat_natCast, List.length_append, List.length_cons, List.length_nil, List.drop_zero, Nat.zero_add, Nat.add_zero, decT, decF, bneI_t, bneI_f]
  · rw [if_neg h]
    obtain ⟨l, xs, e, h1, h2, h3⟩ := fields_run (line := s) (by omega) s [] [] false false [] [] [] rfl rfl rfl (Nat.le_refl _) (Nat.le_refl _)
    rw [← h3]
    refine ⟨l, ?_, h2⟩
    rw [← h1]
    simp (disch := omega) only [onI_c, onS_c, onB_c, onN_c, onL_c, Option.bind_some, Option.map_some, cond_true, cond_false, ↓onI_c, ↓onS_c, ↓onB_c, ↓onN_c, ↓onL_c, ↓Option.bind_some, ↓cond_true, ↓cond_false, decide_eq_true, decide_eq_false, Bool.not_true, Bool.not_false, Int.toNat_natCast, List.length_append, List.length_cons, List.length_nil, List.drop_zero, Nat.zero_add, Nat.add_zero, decT, decF, bneI_t, bneI_f]
    rfl
end Go.Proofs.YtgehedalhppehaaDoor
