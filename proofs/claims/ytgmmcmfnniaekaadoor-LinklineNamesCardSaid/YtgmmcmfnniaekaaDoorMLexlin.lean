/-
  Lines: fields read and joined.
-/
import Derived.Test.YtgmmcmfnniaekaaDoorFlin
import Derived.Test.YtgmmcmfnniaekaaDoorAx32
import Derived.Test.YtgmmcmfnniaekaaDoorAx39
namespace Go.Proofs.YtgmmcmfnniaekaaDoor
open Go.Ax Go.Lib
set_option linter.all false
set_option maxHeartbeats 4000000
set_option maxRecDepth 100000
attribute [local congr] cond_cong bind_cong onI_cong onB_cong onS_cong onN_cong onL_cong
theorem strsOf_cons (s : Ax.S) (l : List AV) : strsOf (.str s :: l) = (strsOf l).map (s.v :: ·) := rfl
theorem strsOf_get : ∀ {l : List AV} {xs : List (List UInt8)}, strsOf l = some xs → ∀ {i : Nat}, i < xs.length → asS l[i]? = some (xs.getD i [])
  | [], xs, h, i, hi => by cases h; simp at hi
  | c :: l, xs, h, i, hi => by
    unfold strsOf at h
    split at h
    · rename_i e; cases e
    · rename_i n l e
      cases e
      cases hb : strsOf l with
      | none => rw [hb] at h; cases h
      | some s' =>
        rw [hb] at h
        cases h
        cases i with
        | zero => rfl
        | succ i => simpa using strsOf_get hb (by simpa using hi)
    · cases h
theorem strsOf_closed : ∀ {l : List AV} {xs : List (List UInt8)}, strsOf l = some xs → l.all (closedN 20) = true
  | [], xs, h => rfl
  | c :: l, xs, h => by
    unfold strsOf at h
    split at h
    · rename_i e; cases e
    · rename_i n l e
      cases e
      cases hb : strsOf l with
      | none => rw [hb] at h; cases h
      | some s' => rw [List.all_cons, strsOf_closed hb]; rfl
    · cases h
theorem strsOf_append : ∀ {l m : List AV} {xs ys : List (List UInt8)}, strsOf l = some xs → strsOf m = some ys → strsOf (l ++ m) = some (xs ++ ys)
  | [], m, xs, ys, h, k => by cases h; simpa using k
  | c :: l, m, xs, ys, h, k => by
    unfold strsOf at h
    split at h
    · rename_i e; cases e
    · rename_i n l e
      cases e
      cases hb : strsOf l with
      | none => rw [hb] at h; cases h
      | some s' =>
        rw [hb] at h
        cases h
        rw [List.cons_append, strsOf_cons, strsOf_append hb k]; rfl
    · cases h
theorem strsOf_take : ∀ {l : List AV} {xs : List (List UInt8)} (n : Nat), strsOf l = some xs → strsOf (l.take n) = some (xs.take n)
  | [], xs, n, h => by cases h; simp [strsOf]
  | c :: l, xs, 0, h => by simp [strsOf]
  | c :: l, xs, n + 1, h => by
    unfold strsOf at h
    split at h
    · rename_i e; cases e
    · rename_i n l e
      cases e
      cases hb : strsOf l with
      | none => rw [hb] at h; cases h
      | some s' =>
        rw [hb] at h
        cases h
        rw [List.take_succ_cons, strsOf_cons, strsOf_take _ hb]; rfl
    · cases h
theorem strsOf_drop : ∀ {l : List AV} {xs : List (List UInt8)} (n : Nat), strsOf l = some xs → strsOf (l.drop n) = some (xs.drop n)
  | [], xs, n, h => by cases h; simp [strsOf]
  | c :: l, xs, 0, h => by simpa using h
  | c :: l, xs, n + 1, h => by
    unfold strsOf at h
    split at h
    · rename_i e; cases e
    · rename_i n l e
      cases e
      cases hb : strsOf l with
      | none => rw [hb] at h; cases h
      | some s' =>
        rw [hb] at h
        cases h
        simpa using strsOf_drop _ hb
    · cases h
theorem strsOf_write {l : List AV} {xs : List (List UInt8)} (h : strsOf l = some xs) {i : Nat} (hi : i < xs.length) (s : Ax.S) : strsOf (Ax.write l i [.str s]) = some (xs.take i ++ s.v :: xs.drop (i + 1)) := by
  unfold Ax.write
  have := strsOf_append (strsOf_append (strsOf_take i h) (show strsOf [AV.str s] = some [s.v] from rfl)) (strsOf_drop (i + 1) h)
  simpa using this
theorem strsOf_zeros : ∀ n : Nat, strsOf (listC n [AV.str (.lit [])]) = some (List.replicate n [])
  | 0 => rfl
  | n + 1 => by
    have : listC (n + 1) [AV.str (.lit [])] = .str (.lit []) :: listC n [AV.str (.lit [])] := rfl
    rw [this, strsOf_cons, strsOf_zeros n]; rfl

theorem bytesOf_closed : ∀ {l : List AV} {s : List UInt8}, Ax.bytesOf l = some s → l.all (closedN 20) = true ∧ l.length = s.length
  | [], s, h => by cases h; exact ⟨rfl, rfl⟩
  | x :: l, s, h => by
    unfold Ax.bytesOf at h
    split at h
    · rename_i e; cases e
    · rename_i n l' e
      cases e
      simp only [Option.map_eq_some_iff] at h
      obtain ⟨s', h1, rfl⟩ := h
      obtain ⟨h2, h3⟩ := bytesOf_closed h1
      exact ⟨by rw [List.all_cons, h2]; rfl, by simp [h3]⟩
    · cases h
theorem bytesOf_append : ∀ {l m : List AV} {s t : List UInt8}, Ax.bytesOf l = some s → Ax.bytesOf m = some t → Ax.bytesOf (l ++ m) = some (s ++ t)
  | [], m, s, t, h, k => by cases h; simpa using k
  | x :: l, m, s, t, h, k => by
    unfold Ax.bytesOf at h
    split at h
    · rename_i e; cases e
    · rename_i n l' e
      cases e
      simp only [Option.map_eq_some_iff] at h
      obtain ⟨s', h1, rfl⟩ := h
      rw [List.cons_append, bytesOf_cons, bytesOf_append h1 k]; rfl
    · cases h
theorem bytesOf_byte (c : UInt8) : Ax.bytesOf [AV.int .u8 (.sym ((c.toNat : Nat) : Int))] = some [c] := by
  rw [bytesOf_cons, bytesOf_nil]
  simp [Ax.I.v]
theorem bytesOf_cells (s : List UInt8) : Ax.bytesOf (byteCells s) = some s := by
  induction s with
  | nil => rfl
  | cons c s ih =>
    show Ax.bytesOf (AV.int .u8 (.lit ((c.toNat : Nat) : Int)) :: byteCells s) = _
    rw [bytesOf_cons, ih]
    simp [Ax.I.v]

/-- A field's end. -/
def fl (bg : Bool) (out : List (List UInt8)) (f : List UInt8) : List (List UInt8) := if bg then out ++ [f] else out
/-- The fields of a line: in quotes or not, a field is begun or not, the fields before, the field's bytes. -/
def fs (q bg : Bool) (out : List (List UInt8)) (f : List UInt8) : List UInt8 → Option (List (List UInt8))
  | [] => if q then none else some (fl bg out f)
  | c :: t =>
    if c.toNat = 35 ∧ q = false then some (fl bg out f)
    else if c.toNat = 34 then fs (!q) true out f t
    else if c.toNat = 9 then if q then none else fs q false (fl bg out f) [] t
    else if c.toNat = 32 ∧ q = false then fs q false (fl bg out f) [] t
    else if c.toNat < 32 ∨ 126 < c.toNat then none
    else fs q true out (f ++ [c]) t
def fieldsV (s : List UInt8) : List (List UInt8) × Int := if 300 < s.length then ([], 6) else match fs false false [] [] s with
  | none => ([], 5)
  | some xs => (xs, 0)
theorem fs_hash {bg out f c t} (h : c.toNat = 35) : fs false bg out f (c :: t) = some (fl bg out f) := by rw [fs, if_pos ⟨h, rfl⟩]
theorem fs_quote {q bg out f c t} (h : c.toNat = 34) : fs q bg out f (c :: t) = fs (!q) true out f t := by rw [fs, if_neg (by omega), if_pos h]
theorem fs_gap {bg out f c t} (h : c.toNat = 9 ∨ c.toNat = 32) : fs false bg out f (c :: t) = fs false false (fl bg out f) [] t := by
  rw [fs, if_neg (by omega), if_neg (by omega)]
  rcases h with h | h
  · rw [if_pos h]; rfl
  · rw [if_neg (by omega), if_pos ⟨h, rfl⟩]
theorem fs_tabq {bg out f c t} (h : c.toNat = 9) : fs true bg out f (c :: t) = none := by
  rw [fs, if_neg (by simp), if_neg (by omega), if_pos h]; rfl
theorem fs_bad {q bg out f c t} (h1 : c.toNat < 32 ∨ 126 < c.toNat) (h2 : c.toNat ≠ 9 ∨ q = true) : fs q bg out f (c :: t) = none := by
  rw [fs, if_neg (by omega), if_neg (by omega)]
  by_cases h9 : c.toNat = 9
  · rw [if_pos h9]
    rcases h2 with h2 | h2
    · exact absurd h9 h2
    · rw [h2]; rfl
  · rw [if_neg h9, if_neg (by omega), if_pos h1]
theorem fs_byte {q bg out f c t} (h1 : 32 ≤ c.toNat ∧ c.toNat ≤ 126) (h2 : c.toNat ≠ 34) (h3 : q = true ∨ (c.toNat ≠ 32 ∧ c.toNat ≠ 35)) : fs q bg out f (c :: t) = fs q true out (f ++ [c]) t := by
  have hq : q = true ∨ q = false := by cases q <;> simp
  rw [fs, if_neg (by rintro ⟨a, b⟩; rcases h3 with h3 | h3; rw [h3] at b; cases b; exact h3.2 a), if_neg h2, if_neg (by omega), if_neg (by rintro ⟨a, b⟩; rcases h3 with h3 | h3; rw [h3] at b; cases b; exact h3.1 a), if_neg (by omega)]

theorem getD_at (p t : List UInt8) (c : UInt8) : (p ++ c :: t).getD p.length 0 = c := by simp [List.getD]

set_option maxHeartbeats 8000000 in
theorem fields_run {line : List UInt8} (hl : line.length ≤ 300) : ∀ (t p f : List UInt8) (q bg : Bool) (out : List (List UInt8)) (co cf : List AV), line = p ++ t → strsOf co = some out → Ax.bytesOf cf = some f → out.length ≤ p.length → f.length ≤ p.length →
    ∃ l xs e, iter F_lexeme_Fields_L0 [.s line, .b q, .i ((line.length : Nat) : Int), .i ((p.length : Nat) : Int), .n out.length, .n f.length, .b bg, .l co, .l cf] = some [.n xs.length, .l l, .i e] ∧ strsOf l = some xs ∧ (xs, e) = (match fs q bg out f t with | none => ([], 5) | some xs => (xs, 0)) := by
  intro t
  induction t with
  | nil =>
    intro p f q bg out co cf ht ho hf h1 h2
    have hlen : line.length = p.length := by rw [ht]; simp
    have hoc := strsOf_closed ho
    have hol := strsOf_len ho
    obtain ⟨hfc, hfl⟩ := bytesOf_closed hf
    have ho2 : strsOf (co ++ [.str (.sym f)]) = some (out ++ [f]) := strsOf_append ho rfl
    have ho2c := strsOf_closed ho2
    have e1 : List.take (out.length + 1) (co ++ [AV.str (.sym f)]) = co ++ [.str (.sym f)] := List.take_of_length_le (by simp; omega)
    rw [fs]
    cases q with
    | true =>
      refine ⟨[], [], 5, iter_end ?_, rfl, rfl⟩
      unfold F_lexeme_Fields_L0
      clear ho hf ho2
      simp (disch := omega) only [onI_c, onS_c, onB_c, onN_c, onL_c, Option.bind_some, Option.map_some, cond_true, cond_false, ↓onI_c, ↓onS_c, ↓onB_c, ↓onN_c, ↓onL_c, ↓Option.bind_some, ↓cond_true, ↓cond_false, decide_eq_true, decide_eq_false, Bool.not_true, Bool.not_false, Int.toNat_natCast, List.length_append, List.length_cons, List.length_nil, List.drop_zero, Nat.zero_add, Nat.add_zero, decT, decF, bneI_t, bneI_f]
    | false =>
      cases bg with
      | true =>
        refine ⟨co ++ [.str (.sym f)], out ++ [f], 0, iter_end ?_, ho2, rfl⟩
        unfold F_lexeme_Fields_L0
        rw [List.length_append, List.length_singleton]
        clear ho ho2
        simp (disch := omega) only [onI_c, onS_c, onB_c, onN_c, onL_c, Option.bind_some, Option.map_some, cond_true, cond_false, ↓onI_c, ↓onS_c, ↓onB_c, ↓onN_c, ↓onL_c, ↓Option.bind_some, ↓cond_true, ↓cond_false, decide_eq_true, decide_eq_false, Bool.not_true, Bool.not_false, Int.toNat_natCast, List.length_append, List.length_cons, List.length_nil, List.drop_zero, Nat.zero_add, Nat.add_zero, decT, decF, bneI_t, bneI_f, Nat.mul_one, hf, e1, ho2c]
      | false =>
        refine ⟨co, out, 0, iter_end ?_, ho, rfl⟩
        unfold F_lexeme_Fields_L0
        clear ho ho2
        simp (disch := omega) only [onI_c, onS_c, onB_c, onN_c, onL_c, Option.bind_some, Option.map_some, cond_true, cond_false, ↓onI_c, ↓onS_c, ↓onB_c, ↓onN_c, ↓onL_c, ↓Option.bind_some, ↓cond_true, ↓cond_false, decide_eq_true, decide_eq_false, Bool.not_true, Bool.not_false, Int.toNat_natCast, List.length_append, List.length_cons, List.length_nil, List.drop_zero, Nat.zero_add, Nat.add_zero, decT, decF, bneI_t, bneI_f, Nat.mul_one, hf, hoc]
  | cons c t ih =>
    intro p f q bg out co cf ht ho hf h1 h2
    have hlen : line.length = p.length + (t.length + 1) := by rw [ht]; simp
    have hg : line.getD p.length 0 = c := by rw [ht]; exact getD_at p t c
    have hi : i64 (((p.length : Nat) : Int) + 1) = ((p.length + 1 : Nat) : Int) := by rw [i64_in _ (by omega)]; omega
    have hoc := strsOf_closed ho
    have hol := strsOf_len ho
    obtain ⟨hfc, hfl⟩ := bytesOf_closed hf
    have ho2 : strsOf (co ++ [.str (.sym f)]) = some (out ++ [f]) := strsOf_append ho rfl
    have ho2c := strsOf_closed ho2
    have hf2 : Ax.bytesOf (cf ++ [.int .u8 (.sym ((c.toNat : Nat) : Int))]) = some (f ++ [c]) := bytesOf_append hf (bytesOf_byte c)
    obtain ⟨hf2c, _⟩ := bytesOf_closed hf2
    have e1 : List.take (out.length + 1) (co ++ [AV.str (.sym f)]) = co ++ [.str (.sym f)] := List.take_of_length_le (by simp; omega)
    have hp2 : (p ++ [c]).length = p.length + 1 := by simp
    have ht2 : line = p ++ [c] ++ t := by rw [ht]; simp
    have go : ∀ (q' bg' : Bool) (out' : List (List UInt8)) (f' : List UInt8) (co' cf' : List AV), strsOf co' = some out' → Ax.bytesOf cf' = some f' → out'.length ≤ p.length + 1 → f'.length ≤ p.length + 1 →
        F_lexeme_Fields_L0 [.s line, .b q, .i ((line.length : Nat) : Int), .i ((p.length : Nat) : Int), .n out.length, .n f.length, .b bg, .l co, .l cf] = some (.inl [.s line, .b q', .i ((line.length : Nat) : Int), .i ((p.length + 1 : Nat) : Int), .n out'.length, .n f'.length, .b bg', .l co', .l cf']) →
        fs q bg out f (c :: t) = fs q' bg' out' f' t →
        ∃ l xs e, iter F_lexeme_Fields_L0 [.s line, .b q, .i ((line.length : Nat) : Int), .i ((p.length : Nat) : Int), .n out.length, .n f.length, .b bg, .l co, .l cf] = some [.n xs.length, .l l, .i e] ∧ strsOf l = some xs ∧ (xs, e) = (match fs q bg out f (c :: t) with | none => ([], 5) | some xs => (xs, 0)) := by
      intro q' bg' out' f' co' cf' k1 k2 k3 k4 k5 k6
      obtain ⟨l, xs, e, m1, m2, m3⟩ := ih (p ++ [c]) f' q' bg' out' co' cf' ht2 k1 k2 (by omega) (by omega)
      rw [hp2] at m1
      exact ⟨l, xs, e, by rw [iter_next k5, m1], m2, by rw [k6]; exact m3⟩
    have bad : fs q bg out f (c :: t) = none → F_lexeme_Fields_L0 [.s line, .b q, .i ((line.length : Nat) : Int), .i ((p.length : Nat) : Int), .n out.length, .n f.length, .b bg, .l co, .l cf] = some (.inr [.n 0, .l [], .i 5]) →
        ∃ l xs e, iter F_lexeme_Fields_L0 [.s line, .b q, .i ((line.length : Nat) : Int), .i ((p.length : Nat) : Int), .n out.length, .n f.length, .b bg, .l co, .l cf] = some [.n xs.length, .l l, .i e] ∧ strsOf l = some xs ∧ (xs, e) = (match fs q bg out f (c :: t) with | none => ([], 5) | some xs => (xs, 0)) :=
      fun k1 k2 => ⟨[], [], 5, iter_end k2, rfl, by rw [k1]⟩
    by_cases hq34 : c.toNat = 34
    · refine go (!q) true out f co cf ho hf (by omega) (by omega) ?_ (fs_quote hq34)
      unfold F_lexeme_Fields_L0
      clear ho hf ho2 hf2 go bad ih
      simp (disch := omega) only [onI_c, onS_c, onB_c, onN_c, onL_c, Option.bind_some, Option.map_some, cond_true, cond_false, ↓onI_c, ↓onS_c, ↓onB_c, ↓onN_c, ↓onL_c, ↓Option.bind_some, ↓cond_true, ↓cond_false, decide_eq_true, decide_eq_false, Bool.not_true, Bool.not_false, Int.toNat_natCast, List.length_append, List.length_cons, List.length_nil, List.drop_zero, Nat.zero_add, Nat.add_zero, decT, decF, bneI_t, bneI_f, hg, hi, hoc, hfc]
    by_cases h9 : c.toNat = 9
    · cases q with
      | true =>
        refine bad (fs_tabq h9) ?_
        unfold F_lexeme_Fields_L0
        clear ho hf ho2 hf2 go bad ih
        simp (disch := omega) only [onI_c, onS_c, onB_c, onN_c, onL_c, Option.bind_some, Option.map_some, cond_true, cond_false, ↓onI_c, ↓onS_c, ↓onB_c, ↓onN_c, ↓onL_c, ↓Option.bind_some, ↓cond_true, ↓cond_false, decide_eq_true, decide_eq_false, Bool.not_true, Bool.not_false, Int.toNat_natCast, List.length_append, List.length_cons, List.length_nil, List.drop_zero, Nat.zero_add, Nat.add_zero, decT, decF, bneI_t, bneI_f, hg, hi, hoc, hfc]
      | false =>
        cases bg with
        | true =>
          refine go false false (out ++ [f]) [] (co ++ [.str (.sym f)]) [] ho2 rfl (by simp; omega) (by simp) ?_ (fs_gap (.inl h9))
          unfold F_lexeme_Fields_L0
          rw [List.length_append, List.length_singleton]
          clear ho ho2 hf2 go bad ih
          simp (disch := omega) only [onI_c, onS_c, onB_c, onN_c, onL_c, Option.bind_some, Option.map_some, cond_true, cond_false, ↓onI_c, ↓onS_c, ↓onB_c, ↓onN_c, ↓onL_c, ↓Option.bind_some, ↓cond_true, ↓cond_false, decide_eq_true, decide_eq_false, Bool.not_true, Bool.not_false, Int.toNat_natCast, List.length_append, List.length_cons, List.length_nil, List.drop_zero, Nat.zero_add, Nat.add_zero, decT, decF, bneI_t, bneI_f, hg, hi, hoc, hfc, hf, ho2c]
        | false =>
          refine go false false out [] co [] ho rfl (by omega) (by simp) ?_ (fs_gap (.inl h9))
          unfold F_lexeme_Fields_L0
          clear ho hf ho2 hf2 go bad ih
          simp (disch := omega) only [onI_c, onS_c, onB_c, onN_c, onL_c, Option.bind_some, Option.map_some, cond_true, cond_false, ↓onI_c, ↓onS_c, ↓onB_c, ↓onN_c, ↓onL_c, ↓Option.bind_some, ↓cond_true, ↓cond_false, decide_eq_true, decide_eq_false, Bool.not_true, Bool.not_false, Int.toNat_natCast, List.length_append, List.length_cons, List.length_nil, List.drop_zero, Nat.zero_add, Nat.add_zero, decT, decF, bneI_t, bneI_f, hg, hi, hoc, hfc]
    cases q with
    | true =>
      by_cases hb : c.toNat < 32 ∨ 126 < c.toNat
      · refine bad (fs_bad hb (.inr rfl)) ?_
        unfold F_lexeme_Fields_L0
        clear ho hf ho2 hf2 go bad ih
        by_cases h35 : c.toNat = 35
        · omega
        by_cases h32 : c.toNat = 32
        · omega
        rcases hb with hb | hb
        · simp (disch := omega) only [onI_c, onS_c, onB_c, onN_c, onL_c, Option.bind_some, Option.map_some, cond_true, cond_false, ↓onI_c, ↓onS_c, ↓onB_c, ↓onN_c, ↓onL_c, ↓Option.bind_some, ↓cond_true, ↓cond_false, decide_eq_true, decide_eq_false, Bool.not_true, Bool.not_false, Int.toNat_natCast, List.length_append, List.length_cons, List.length_nil, List.drop_zero, Nat.zero_add, Nat.add_zero, decT, decF, bneI_t, bneI_f, hg, hi, hoc, hfc]
        · simp (disch := omega) only [onI_c, onS_c, onB_c, onN_c, onL_c, Option.bind_some, Option.map_some, cond_true, cond_false, ↓onI_c, ↓onS_c, ↓onB_c, ↓onN_c, ↓onL_c, ↓Option.bind_some, ↓cond_true, ↓cond_false, decide_eq_true, decide_eq_false, Bool.not_true, Bool.not_false, Int.toNat_natCast, List.length_append, List.length_cons, List.length_nil, List.drop_zero, Nat.zero_add, Nat.add_zero, decT, decF, bneI_t, bneI_f, hg, hi, hoc, hfc]
      · refine go true true out (f ++ [c]) co (cf ++ [.int .u8 (.sym ((c.toNat : Nat) : Int))]) ho hf2 (by omega) (by simp; omega) ?_ (fs_byte (by omega) hq34 (.inl rfl))
        unfold F_lexeme_Fields_L0
        rw [show (f ++ [c]).length = f.length + 1 by simp]
        clear ho hf ho2 hf2 go bad ih
        by_cases h35 : c.toNat = 35
        · simp (disch := omega) only [onI_c, onS_c, onB_c, onN_c, onL_c, Option.bind_some, Option.map_some, cond_true, cond_false, ↓onI_c, ↓onS_c, ↓onB_c, ↓onN_c, ↓onL_c, ↓Option.bind_some, ↓cond_true, ↓cond_false, decide_eq_true, decide_eq_false, Bool.not_true, Bool.not_false, Int.toNat_natCast, List.length_append, List.length_cons, List.length_nil, List.drop_zero, Nat.zero_add, Nat.add_zero, decT, decF, bneI_t, bneI_f, hg, hi, hoc, hf2c]
        · by_cases h32 : c.toNat = 32
          · simp (disch := omega) only [onI_c, onS_c, onB_c, onN_c, onL_c, Option.bind_some, Option.map_some, cond_true, cond_false, ↓onI_c, ↓onS_c, ↓onB_c, ↓onN_c, ↓onL_c, ↓Option.bind_some, ↓cond_true, ↓cond_false, decide_eq_true, decide_eq_false, Bool.not_true, Bool.not_false, Int.toNat_natCast, List.length_append, List.length_cons, List.length_nil, List.drop_zero, Nat.zero_add, Nat.add_zero, decT, decF, bneI_t, bneI_f, hg, hi, hoc, hf2c]
          · simp (disch := omega) only [onI_c, onS_c, onB_c, onN_c, onL_c, Option.bind_some, Option.map_some, cond_true, cond_false, ↓onI_c, ↓onS_c, ↓onB_c, ↓onN_c, ↓onL_c, ↓Option.bind_some, ↓cond_true, ↓cond_false, decide_eq_true, decide_eq_false, Bool.not_true, Bool.not_false, Int.toNat_natCast, List.length_append, List.length_cons, List.length_nil, List.drop_zero, Nat.zero_add, Nat.add_zero, decT, decF, bneI_t, bneI_f, hg, hi, hoc, hf2c]
    | false =>
      by_cases h35 : c.toNat = 35
      · rw [fs_hash h35]
        cases bg with
        | true =>
          refine ⟨co ++ [.str (.sym f)], out ++ [f], 0, iter_end ?_, ho2, rfl⟩
          unfold F_lexeme_Fields_L0
          rw [List.length_append, List.length_singleton]
          clear ho ho2 hf2 go bad ih
          simp (disch := omega) only [onI_c, onS_c, onB_c, onN_c, onL_c, Option.bind_some, Option.map_some, cond_true, cond_false, ↓onI_c, ↓onS_c, ↓onB_c, ↓onN_c, ↓onL_c, ↓Option.bind_some, ↓cond_true, ↓cond_false, decide_eq_true, decide_eq_false, Bool.not_true, Bool.not_false, Int.toNat_natCast, List.length_append, List.length_cons, List.length_nil, List.drop_zero, Nat.zero_add, Nat.add_zero, decT, decF, bneI_t, bneI_f, hg, Nat.mul_one, hf, e1, ho2c]
        | false =>
          refine ⟨co, out, 0, iter_end ?_, ho, rfl⟩
          unfold F_lexeme_Fields_L0
          clear ho ho2 hf2 go bad ih
          simp (disch := omega) only [onI_c, onS_c, onB_c, onN_c, onL_c, Option.bind_some, Option.map_some, cond_true, cond_false, ↓onI_c, ↓onS_c, ↓onB_c, ↓onN_c, ↓onL_c, ↓Option.bind_some, ↓cond_true, ↓cond_false, decide_eq_true, decide_eq_false, Bool.not_true, Bool.not_false, Int.toNat_natCast, List.length_append, List.length_cons, List.length_nil, List.drop_zero, Nat.zero_add, Nat.add_zero, decT, decF, bneI_t, bneI_f, hg, Nat.mul_one, hf, hoc]
      by_cases h32 : c.toNat = 32
      · cases bg with
        | true =>
          refine go false false (out ++ [f]) [] (co ++ [.str (.sym f)]) [] ho2 rfl (by simp; omega) (by simp) ?_ (fs_gap (.inr h32))
          unfold F_lexeme_Fields_L0
          rw [List.length_append, List.length_singleton]
          clear ho ho2 hf2 go bad ih
          simp (disch := omega) only [onI_c, onS_c, onB_c, onN_c, onL_c, Option.bind_some, Option.map_some, cond_true, cond_false, ↓onI_c, ↓onS_c, ↓onB_c, ↓onN_c, ↓onL_c, ↓Option.bind_some, ↓cond_true, ↓cond_false, decide_eq_true, decide_eq_false, Bool.not_true, Bool.not_false, Int.toNat_natCast, List.length_append, List.length_cons, List.length_nil, List.drop_zero, Nat.zero_add, Nat.add_zero, decT, decF, bneI_t, bneI_f, hg, hi, hoc, hfc, hf, ho2c]
        | false =>
          refine go false false out [] co [] ho rfl (by omega) (by simp) ?_ (fs_gap (.inr h32))
          unfold F_lexeme_Fields_L0
          clear ho hf ho2 hf2 go bad ih
          simp (disch := omega) only [onI_c, onS_c, onB_c, onN_c, onL_c, Option.bind_some, Option.map_some, cond_true, cond_false, ↓onI_c, ↓onS_c, ↓onB_c, ↓onN_c, ↓onL_c, ↓Option.bind_some, ↓cond_true, ↓cond_false, decide_eq_true, decide_eq_false, Bool.not_true, Bool.not_false, Int.toNat_natCast, List.length_append, List.length_cons, List.length_nil, List.drop_zero, Nat.zero_add, Nat.add_zero, decT, decF, bneI_t, bneI_f, hg, hi, hoc, hfc]
      by_cases hb : c.toNat < 32 ∨ 126 < c.toNat
      · refine bad (fs_bad hb (.inl h9)) ?_
        unfold F_lexeme_Fields_L0
        clear ho hf ho2 hf2 go bad ih
        rcases hb with hb | hb
        · simp (disch := omega) only [onI_c, onS_c, onB_c, onN_c, onL_c, Option.bind_some, Option.map_some, cond_true, cond_false, ↓onI_c, ↓onS_c, ↓onB_c, ↓onN_c, ↓onL_c, ↓Option.bind_some, ↓cond_true, ↓cond_false, decide_eq_true, decide_eq_false, Bool.not_true, Bool.not_false, Int.toNat_natCast, List.length_append, List.length_cons, List.length_nil, List.drop_zero, Nat.zero_add, Nat.add_zero, decT, decF, bneI_t, bneI_f, hg, hi, hoc, hfc]
        · simp (disch := omega) only [onI_c, onS_c, onB_c, onN_c, onL_c, Option.bind_some, Option.map_some, cond_true, cond_false, ↓onI_c, ↓onS_c, ↓onB_c, ↓onN_c, ↓onL_c, ↓Option.bind_some, ↓cond_true, ↓cond_false, decide_eq_true, decide_eq_false, Bool.not_true, Bool.not_false, Int.toNat_natCast, List.length_append, List.length_cons, List.length_nil, List.drop_zero, Nat.zero_add, Nat.add_zero, decT, decF, bneI_t, bneI_f, hg, hi, hoc, hfc]
      · refine go false true out (f ++ [c]) co (cf ++ [.int .u8 (.sym ((c.toNat : Nat) : Int))]) ho hf2 (by omega) (by simp; omega) ?_ (fs_byte (by omega) hq34 (.inr ⟨h32, h35⟩))
        unfold F_lexeme_Fields_L0
        rw [show (f ++ [c]).length = f.length + 1 by simp]
        clear ho hf ho2 hf2 go bad ih
        simp (disch := omega) only [onI_c, onS_c, onB_c, onN_c, onL_c, Option.bind_some, Option.map_some, cond_true, cond_false, ↓onI_c, ↓onS_c, ↓onB_c, ↓onN_c, ↓onL_c, ↓Option.bind_some, ↓cond_true, ↓cond_false, decide_eq_true, decide_eq_false, Bool.not_true, Bool.not_false, Int.toNat_natCast, List.length_append, List.length_cons, List.length_nil, List.drop_zero, Nat.zero_add, Nat.add_zero, decT, decF, bneI_t, bneI_f, hg, hi, hoc, hf2c]
theorem fields_at (s : List UInt8) (hs : s.length < 4611686018427387904) : ∃ l, F_lexeme_Fields [.s s] = some [.n (fieldsV s).1.length, .l l, .i (fieldsV s).2] ∧ strsOf l = some (fieldsV s).1 := by
  unfold fieldsV F_lexeme_Fields
  by_cases h : 300 < s.length
  · rw [if_pos h]
    refine ⟨[], ?_, rfl⟩
    simp (disch := omega) only [onI_c, onS_c, onB_c, onN_c, onL_c, Option.bind_some, Option.map_some, cond_true, cond_false, ↓onI_c, ↓onS_c, ↓onB_c, ↓onN_c, ↓onL_c, ↓Option.bind_some, ↓cond_true, ↓cond_false, decide_eq_true, decide_eq_false, Bool.not_true, Bool.not_false, Int.toNat_natCast, List.length_append, List.length_cons, List.length_nil, List.drop_zero, Nat.zero_add, Nat.add_zero, decT, decF, bneI_t, bneI_f]
  · rw [if_neg h]
    obtain ⟨l, xs, e, h1, h2, h3⟩ := fields_run (line := s) (by omega) s [] [] false false [] [] [] rfl rfl rfl (Nat.le_refl _) (Nat.le_refl _)
    rw [← h3]
    refine ⟨l, ?_, h2⟩
    rw [← h1]
    simp (disch := omega) only [onI_c, onS_c, onB_c, onN_c, onL_c, Option.bind_some, Option.map_some, cond_true, cond_false, ↓onI_c, ↓onS_c, ↓onB_c, ↓onN_c, ↓onL_c, ↓Option.bind_some, ↓cond_true, ↓cond_false, decide_eq_true, decide_eq_false, Bool.not_true, Bool.not_false, Int.toNat_natCast, List.length_append, List.length_cons, List.length_nil, List.drop_zero, Nat.zero_add, Nat.add_zero, decT, decF, bneI_t, bneI_f]
    rfl
def stop : List UInt8 → Prop
  | [] => True
  | c :: _ => ¬ (33 ≤ c.toNat ∧ c.toNat ≤ 126 ∧ c.toNat ≠ 35)
theorem fs_begun {out f} {t : List UInt8} (h : ¬ stop t) : fs false false out f t = fs false true out f t := by
  cases t with
  | nil => exact absurd trivial h
  | cons c t =>
    have hc : 33 ≤ c.toNat ∧ c.toNat ≤ 126 ∧ c.toNat ≠ 35 := by
      by_cases q : 33 ≤ c.toNat ∧ c.toNat ≤ 126 ∧ c.toNat ≠ 35
      · exact q
      · exact absurd q h
    by_cases h34 : c.toNat = 34
    · rw [fs_quote h34, fs_quote h34]
    · rw [fs_byte (by omega) h34 (.inr (by omega)), fs_byte (by omega) h34 (.inr (by omega))]
theorem fs_stop {out f} {t : List UInt8} (h : stop t) : fs false true out f t = fs false false (out ++ [f]) [] t := by
  cases t with
  | nil => rfl
  | cons c t =>
    have hc : ¬ (33 ≤ c.toNat ∧ c.toNat ≤ 126 ∧ c.toNat ≠ 35) := h
    by_cases h35 : c.toNat = 35
    · rw [fs_hash h35, fs_hash h35]; rfl
    by_cases hg : c.toNat = 9 ∨ c.toNat = 32
    · rw [fs_gap hg, fs_gap hg]; rfl
    · rw [fs_bad (by omega) (.inl (by omega)), fs_bad (by omega) (.inl (by omega))]
def fR : Option (List (List UInt8)) → List (List UInt8) × Int
  | none => ([], 5)
  | some xs => (xs, 0)
theorem fieldsV_R (s : List UInt8) : fieldsV s = if 300 < s.length then ([], 6) else fR (fs false false [] [] s) := by
  unfold fieldsV
  split
  · rfl
  · cases fs false false [] [] s <;> rfl
def wrB (s : List UInt8) : Bool := s.all fun c => decide (32 ≤ c.toNat ∧ c.toNat ≤ 126 ∧ c.toNat ≠ 34)
def bareB (s : List UInt8) : Bool := !(s == []) && s.all fun c => decide (c.toNat ≠ 32 ∧ c.toNat ≠ 35)
def item (s : List UInt8) : List UInt8 := if bareB s = true then s else 34 :: s ++ [34]
def jn (first : Bool) : List (List UInt8) → List UInt8
  | [] => []
  | x :: xs => (if first then [] else [32]) ++ item x ++ jn false xs
def joinV (xs : List (List UInt8)) : List UInt8 × Int := if xs.all wrB = true then (if 300 < (jn true xs).length then ([], 6) else (jn true xs, 0)) else ([], 2)
theorem item_length (s : List UInt8) : (item s).length ≤ s.length + 2 := by unfold item; split <;> simp
theorem jn_first (xs : List (List UInt8)) : jn false xs = if xs = [] then [] else 32 :: jn true xs := by
  cases xs <;> simp [jn]

theorem writable_run (s : List UInt8) (hl : s.length < 4611686018427387904) : ∀ (t p : List UInt8), s = p ++ t → iter F_lexeme_writable_L0 [.s s, .i ((s.length : Nat) : Int), .i ((p.length : Nat) : Int)] = some [.b (wrB t)] := by
  intro t
  induction t with
  | nil =>
    intro p ht
    have hlen : s.length = p.length := by rw [ht]; simp
    refine iter_end ?_
    unfold F_lexeme_writable_L0
    simp (disch := omega) only [onI_c, onS_c, onB_c, onN_c, onL_c, Option.bind_some, Option.map_some, cond_true, cond_false, ↓onI_c, ↓onS_c, ↓onB_c, ↓onN_c, ↓onL_c, ↓Option.bind_some, ↓cond_true, ↓cond_false, decide_eq_true, decide_eq_false, Bool.not_true, Bool.not_false, Int.toNat_natCast, List.length_append, List.length_cons, List.length_nil, List.drop_zero, Nat.zero_add, Nat.add_zero, decT, decF, bneI_t, bneI_f]
    rfl
  | cons c t ih =>
    intro p ht
    have hlen : s.length = p.length + (t.length + 1) := by rw [ht]; simp
    have hg : s.getD p.length 0 = c := by rw [ht]; exact getD_at p t c
    have hi : i64 (((p.length : Nat) : Int) + 1) = ((p.length + 1 : Nat) : Int) := by rw [i64_in _ (by omega)]; omega
    have hp2 : (p ++ [c]).length = p.length + 1 := by simp
    have k := ih (p ++ [c]) (by rw [ht]; simp)
    rw [hp2] at k
    by_cases hc : 32 ≤ c.toNat ∧ c.toNat ≤ 126 ∧ c.toNat ≠ 34
    · have e : wrB (c :: t) = wrB t := by unfold wrB; rw [List.all_cons, decide_eq_true hc, Bool.true_and]
      rw [e, iter_next (y := [.s s, .i ((s.length : Nat) : Int), .i ((p.length + 1 : Nat) : Int)]), k]
      unfold F_lexeme_writable_L0
      clear ih k ht
      simp (disch := omega) only [onI_c, onS_c, onB_c, onN_c, onL_c, Option.bind_some, Option.map_some, cond_true, cond_false, ↓onI_c, ↓onS_c, ↓onB_c, ↓onN_c, ↓onL_c, ↓Option.bind_some, ↓cond_true, ↓cond_false, decide_eq_true, decide_eq_false, Bool.not_true, Bool.not_false, Int.toNat_natCast, List.length_append, List.length_cons, List.length_nil, List.drop_zero, Nat.zero_add, Nat.add_zero, decT, decF, bneI_t, bneI_f, hg, hi]
    · have e : wrB (c :: t) = false := by unfold wrB; rw [List.all_cons, decide_eq_false hc, Bool.false_and]
      rw [e]
      refine iter_end ?_
      unfold F_lexeme_writable_L0
      clear ih k ht
      by_cases h1 : c.toNat < 32
      · simp (disch := omega) only [onI_c, onS_c, onB_c, onN_c, onL_c, Option.bind_some, Option.map_some, cond_true, cond_false, ↓onI_c, ↓onS_c, ↓onB_c, ↓onN_c, ↓onL_c, ↓Option.bind_some, ↓cond_true, ↓cond_false, decide_eq_true, decide_eq_false, Bool.not_true, Bool.not_false, Int.toNat_natCast, List.length_append, List.length_cons, List.length_nil, List.drop_zero, Nat.zero_add, Nat.add_zero, decT, decF, bneI_t, bneI_f, hg, hi]
      · by_cases h2 : 126 < c.toNat
        · simp (disch := omega) only [onI_c, onS_c, onB_c, onN_c, onL_c, Option.bind_some, Option.map_some, cond_true, cond_false, ↓onI_c, ↓onS_c, ↓onB_c, ↓onN_c, ↓onL_c, ↓Option.bind_some, ↓cond_true, ↓cond_false, decide_eq_true, decide_eq_false, Bool.not_true, Bool.not_false, Int.toNat_natCast, List.length_append, List.length_cons, List.length_nil, List.drop_zero, Nat.zero_add, Nat.add_zero, decT, decF, bneI_t, bneI_f, hg, hi]
        · simp (disch := omega) only [onI_c, onS_c, onB_c, onN_c, onL_c, Option.bind_some, Option.map_some, cond_true, cond_false, ↓onI_c, ↓onS_c, ↓onB_c, ↓onN_c, ↓onL_c, ↓Option.bind_some, ↓cond_true, ↓cond_false, decide_eq_true, decide_eq_false, Bool.not_true, Bool.not_false, Int.toNat_natCast, List.length_append, List.length_cons, List.length_nil, List.drop_zero, Nat.zero_add, Nat.add_zero, decT, decF, bneI_t, bneI_f, hg, hi]
theorem writable_at (s : List UInt8) (hl : s.length < 4611686018427387904) : F_lexeme_writable [.s s] = some [.b (wrB s)] := by
  have h := writable_run s hl s [] rfl
  unfold F_lexeme_writable
  simp only [onI_c, onS_c, onB_c, onN_c, onL_c, Option.bind_some, Option.map_some, cond_true, cond_false, ↓onI_c, ↓onS_c, ↓onB_c, ↓onN_c, ↓onL_c, ↓Option.bind_some, ↓cond_true, ↓cond_false, decide_eq_true, decide_eq_false, Bool.not_true, Bool.not_false, Int.toNat_natCast, List.length_append, List.length_cons, List.length_nil, List.drop_zero, Nat.zero_add, Nat.add_zero, decT, decF, bneI_t, bneI_f]
  exact h
theorem indexAny_neg (chars : List UInt8) : ∀ s : List UInt8, (0 ≤ indexAny s chars) = (s.any chars.contains = true)
  | [] => by simp [indexAny]
  | b :: l => by
    have ih := indexAny_neg chars l
    have hge := indexAny_ge chars l
    unfold indexAny
    by_cases hb : chars.contains b = true
    · rw [if_pos hb, List.any_cons, hb]; simp
    · rw [if_neg hb]
      have hb' : chars.contains b = false := by simpa using hb
      rw [List.any_cons, hb', Bool.false_or, ← ih]
      by_cases h1 : (indexAny l chars == -1) = true
      · rw [if_pos h1]
        have : indexAny l chars = -1 := eq_of_beq h1
        rw [this]
      · rw [if_neg h1]
        have : indexAny l chars ≠ -1 := fun e => h1 (by rw [e]; rfl)
        apply propext
        constructor <;> intro h <;> omega
theorem contains_bare {s : List UInt8} (hs : s ≠ []) : containsAny s [32, 35] = !bareB s := by
  have e1 : (s == []) = false := beq_f hs
  unfold containsAny bareB
  rw [e1]
  have : decide (0 ≤ indexAny s [32, 35]) = s.any ([32, 35] : List UInt8).contains := by
    rw [Bool.eq_iff_iff, decide_eq_true_iff, indexAny_neg]
  rw [this]
  clear this e1 hs
  induction s with
  | nil => rfl
  | cons c s ih =>
    rw [List.any_cons, List.all_cons, ih]
    have hc : ([32, 35] : List UInt8).contains c = !decide (c.toNat ≠ 32 ∧ c.toNat ≠ 35) := by
      by_cases h : c.toNat ≠ 32 ∧ c.toNat ≠ 35
      · rw [decide_eq_true h]
        have h1 : c ≠ 32 := fun e => h.1 (by rw [e]; rfl)
        have h2 : c ≠ 35 := fun e => h.2 (by rw [e]; rfl)
        simp [h1, h2]
      · rw [decide_eq_false h]
        have : c = 32 ∨ c = 35 := by
          by_cases h32 : c.toNat = 32
          · exact .inl (UInt8.toNat_inj.1 h32)
          · exact .inr (UInt8.toNat_inj.1 (by show c.toNat = 35; omega))
        rcases this with h | h <;> rw [h] <;> rfl
    rw [hc]
    cases decide (c.toNat ≠ 32 ∧ c.toNat ≠ 35) <;> simp
theorem ascii_wr {s : List UInt8} (h : wrB s = true) : asciiB s = true := by
  unfold wrB at h
  unfold asciiB
  rw [List.all_eq_true] at h ⊢
  intro c hc
  have := of_decide_eq_true (h c hc)
  exact decide_eq_true (by omega)
theorem ca_at {s : List UInt8} (h : wrB s = true) (hs : s ≠ []) (hl : s.length < 4294967281) : strContainsAny [.s s, .s [32, 35]] = some [.b (!bareB s)] := by
  unfold strContainsAny
  simp only [onS_c]
  rw [if_pos ⟨hl, by simp, ascii_wr h, rfl⟩, contains_bare hs]
def joinR (acc : List UInt8) (first : Bool) (xs : List (List UInt8)) : List UInt8 × Int := if xs.all wrB = true then (if 300 < (acc ++ jn first xs).length then ([], 6) else (acc ++ jn first xs, 0)) else ([], 2)
theorem joinR_V (xs : List (List UInt8)) : joinR [] true xs = joinV xs := by unfold joinR joinV; rw [List.nil_append]
theorem joinR_step {acc x : List UInt8} {first : Bool} {xs : List (List UInt8)} (h : wrB x = true) : joinR acc first (x :: xs) = joinR (acc ++ (if first = true then [] else [32]) ++ item x) false xs := by
  unfold joinR
  rw [List.all_cons, h, Bool.true_and, jn]
  simp only [List.append_assoc]
theorem joinR_bad {acc x : List UInt8} {first : Bool} {xs : List (List UInt8)} (h : wrB x = false) : joinR acc first (x :: xs) = ([], 2) := by
  unfold joinR
  rw [List.all_cons, h, Bool.false_and]
  rfl
theorem item_q {x : List UInt8} (h : bareB x = false) : item x = ([34] ++ x) ++ [34] := by unfold item; rw [h]; rfl
theorem item_b {x : List UInt8} (h : bareB x = true) : item x = x := by unfold item; rw [h]; rfl

theorem join_run {xs : List (List UInt8)} {l : List AV} (h : strsOf l = some xs) (hN : xs.length ≤ 1000) (hb : ∀ x ∈ xs, x.length ≤ 2000) : ∀ (m i : Nat) (acc : List UInt8) (cells : List AV), i + m = xs.length → Ax.bytesOf cells = some acc → acc.length ≤ i * 2003 →
    iter F_lexeme_Join_L0 [.n xs.length, .l l, .i ((xs.length : Nat) : Int), .i ((i : Nat) : Int), .n acc.length, .l cells] = some [.s (joinR acc (decide (i = 0)) (xs.drop i)).1, .i (joinR acc (decide (i = 0)) (xs.drop i)).2] := by
  intro m
  induction m with
  | zero =>
    intro i acc cells hi hc ha
    obtain ⟨hcc, hcl⟩ := bytesOf_closed hc
    rw [List.drop_of_length_le (by omega)]
    have e : joinR acc (decide (i = 0)) [] = if 300 < acc.length then ([], 6) else (acc, 0) := by unfold joinR; simp [jn]
    rw [e]
    have ha2 : acc.length ≤ 1000 * 2003 := by have : i * 2003 ≤ 1000 * 2003 := Nat.mul_le_mul_right _ (by omega); omega
    refine iter_end ?_
    unfold F_lexeme_Join_L0
    by_cases h3 : 300 < acc.length
    · rw [if_pos h3]
      clear h hc
      simp (disch := omega) only [onI_c, onS_c, onB_c, onN_c, onL_c, Option.bind_some, Option.map_some, cond_true, cond_false, ↓onI_c, ↓onS_c, ↓onB_c, ↓onN_c, ↓onL_c, ↓Option.bind_some, ↓cond_true, ↓cond_false, decide_eq_true, decide_eq_false, Bool.not_true, Bool.not_false, Int.toNat_natCast, List.length_append, List.length_cons, List.length_nil, List.drop_zero, Nat.zero_add, Nat.add_zero, decT, decF, bneI_t, bneI_f]
    · rw [if_neg h3]
      clear h
      simp (disch := omega) only [onI_c, onS_c, onB_c, onN_c, onL_c, Option.bind_some, Option.map_some, cond_true, cond_false, ↓onI_c, ↓onS_c, ↓onB_c, ↓onN_c, ↓onL_c, ↓Option.bind_some, ↓cond_true, ↓cond_false, decide_eq_true, decide_eq_false, Bool.not_true, Bool.not_false, Int.toNat_natCast, List.length_append, List.length_cons, List.length_nil, List.drop_zero, Nat.zero_add, Nat.add_zero, decT, decF, bneI_t, bneI_f, hc]
  | succ m ih =>
    intro i acc cells hi hc ha
    have hlt : i < xs.length := by omega
    have g1 := strsOf_get h hlt
    have g4 : i64 ((i : Int) + 1) = ((i + 1 : Nat) : Int) := by rw [i64_in _ (by omega)]; omega
    have e4 : xs.drop i = xs.getD i [] :: xs.drop (i + 1) := by
      rw [List.drop_eq_getElem_cons hlt]; simp [List.getD, hlt]
    have hmem : xs.getD i [] ∈ xs := by
      have : xs.getD i [] = xs[i] := by simp [List.getD, hlt]
      rw [this]; exact List.getElem_mem hlt
    have hxl := hb _ hmem
    have ha2 : acc.length ≤ 1000 * 2003 := by have : i * 2003 ≤ 1000 * 2003 := Nat.mul_le_mul_right _ (by omega); omega
    have hw := writable_at (xs.getD i []) (by omega)
    rw [e4]
    generalize hx : xs.getD i [] = x at *
    clear e4
    cases hwr : wrB x with
    | false =>
      rw [hwr] at hw
      rw [joinR_bad hwr]
      refine iter_end ?_
      unfold F_lexeme_Join_L0
      clear h hc ih hb ha
      simp (disch := omega) only [onI_c, onS_c, onB_c, onN_c, onL_c, Option.bind_some, Option.map_some, cond_true, cond_false, ↓onI_c, ↓onS_c, ↓onB_c, ↓onN_c, ↓onL_c, ↓Option.bind_some, ↓cond_true, ↓cond_false, decide_eq_true, decide_eq_false, Bool.not_true, Bool.not_false, Int.toNat_natCast, List.length_append, List.length_cons, List.length_nil, List.drop_zero, Nat.zero_add, Nat.add_zero, decT, decF, bneI_t, bneI_f, g1, hw]
    | true =>
      rw [hwr] at hw
      rw [joinR_step hwr]
      obtain ⟨hcc, hcl⟩ := bytesOf_closed hc
      have hil := item_length x
      have nx : ∀ cells', Ax.bytesOf cells' = some (acc ++ (if decide (i = 0) = true then [] else [32]) ++ item x) → F_lexeme_Join_L0 [.n xs.length, .l l, .i ((xs.length : Nat) : Int), .i ((i : Nat) : Int), .n acc.length, .l cells] =
            some (.inl [.n xs.length, .l l, .i ((xs.length : Nat) : Int), .i ((i + 1 : Nat) : Int), .n (acc ++ (if decide (i = 0) = true then [] else [32]) ++ item x).length, .l cells']) →
          iter F_lexeme_Join_L0 [.n xs.length, .l l, .i ((xs.length : Nat) : Int), .i ((i : Nat) : Int), .n acc.length, .l cells] = some [.s (joinR (acc ++ (if decide (i = 0) = true then [] else [32]) ++ item x) false (xs.drop (i + 1))).1, .i (joinR (acc ++ (if decide (i = 0) = true then [] else [32]) ++ item x) false (xs.drop (i + 1))).2] := by
        intro cells' k1 k2
        rw [iter_next k2, ih (i + 1) _ cells' (by omega) k1 (by
          rw [List.length_append, List.length_append]
          have : (if decide (i = 0) = true then ([] : List UInt8) else [32]).length ≤ 1 := by split <;> simp
          omega)]
        rfl
      have hcat : x ≠ [] → strContainsAny [.s x, .s [32, 35]] = some [.b (!bareB x)] := fun hne => ca_at hwr hne (by omega)
      have hbne : bareB x = true → x ≠ [] := by rintro hb rfl; cases hb
      have h32 : Ax.bytesOf (cells ++ [.int .u8 (.lit 32)]) = some (acc ++ [32]) := bytesOf_append hc rfl
      obtain ⟨h32c, h32l⟩ := bytesOf_closed h32
      by_cases hi0 : i = 0
      · rw [decide_eq_true hi0] at nx ⊢
        rw [if_pos rfl, List.append_nil] at nx ⊢
        cases hbx : bareB x with
        | true =>
          rw [item_b hbx] at nx ⊢
          have hne := hbne hbx
          have hca := hcat hne
          rw [hbx] at hca
          have hk := bytesOf_append hc (bytesOf_cells x)
          have hkc := (bytesOf_closed hk).1
          refine nx _ hk ?_
          have hs0 : (x == []) = false := beq_f hne
          rw [List.length_append]
          unfold F_lexeme_Join_L0
          clear h hc ih hb ha nx hk h32
          simp (disch := omega) only [onI_c, onS_c, onB_c, onN_c, onL_c, Option.bind_some, Option.map_some, cond_true, cond_false, ↓onI_c, ↓onS_c, ↓onB_c, ↓onN_c, ↓onL_c, ↓Option.bind_some, ↓cond_true, ↓cond_false, decide_eq_true, decide_eq_false, Bool.not_true, Bool.not_false, Int.toNat_natCast, List.length_append, List.length_cons, List.length_nil, List.drop_zero, Nat.zero_add, Nat.add_zero, decT, decF, bneI_t, bneI_f, g1, g4, hw, hs0, hca, hkc]
        | false =>
          rw [item_q hbx] at nx ⊢
          have hk := bytesOf_append hc (bytesOf_cells (([34] ++ x) ++ [34]))
          have hkc := (bytesOf_closed hk).1
          refine nx _ hk ?_
          rw [List.length_append]
          unfold F_lexeme_Join_L0
          clear h hc ih hb ha nx hk h32
          by_cases hne : x = []
          · subst hne
            have hs0 : (([] : List UInt8) == []) = true := rfl
            simp (disch := omega) only [onI_c, onS_c, onB_c, onN_c, onL_c, Option.bind_some, Option.map_some, cond_true, cond_false, ↓onI_c, ↓onS_c, ↓onB_c, ↓onN_c, ↓onL_c, ↓Option.bind_some, ↓cond_true, ↓cond_false, decide_eq_true, decide_eq_false, Bool.not_true, Bool.not_false, Int.toNat_natCast, List.length_append, List.length_cons, List.length_nil, List.drop_zero, Nat.zero_add, Nat.add_zero, decT, decF, bneI_t, bneI_f, g1, g4, hw, hs0, hkc]
          · have hca := hcat hne
            rw [hbx] at hca
            have hs0 : (x == []) = false := beq_f hne
            simp (disch := omega) only [onI_c, onS_c, onB_c, onN_c, onL_c, Option.bind_some, Option.map_some, cond_true, cond_false, ↓onI_c, ↓onS_c, ↓onB_c, ↓onN_c, ↓onL_c, ↓Option.bind_some, ↓cond_true, ↓cond_false, decide_eq_true, decide_eq_false, Bool.not_true, Bool.not_false, Int.toNat_natCast, List.length_append, List.length_cons, List.length_nil, List.drop_zero, Nat.zero_add, Nat.add_zero, decT, decF, bneI_t, bneI_f, g1, g4, hw, hs0, hca, hkc]
      · rw [decide_eq_false hi0] at nx ⊢
        rw [if_neg (by simp)] at nx ⊢
        cases hbx : bareB x with
        | true =>
          rw [item_b hbx] at nx ⊢
          have hne := hbne hbx
          have hca := hcat hne
          rw [hbx] at hca
          have hk := bytesOf_append h32 (bytesOf_cells x)
          have hkc := (bytesOf_closed hk).1
          refine nx _ hk ?_
          have hs0 : (x == []) = false := beq_f hne
          rw [List.length_append, List.length_append, List.length_singleton]
          unfold F_lexeme_Join_L0
          clear h hc ih hb ha nx hk h32
          simp (disch := omega) only [onI_c, onS_c, onB_c, onN_c, onL_c, Option.bind_some, Option.map_some, cond_true, cond_false, ↓onI_c, ↓onS_c, ↓onB_c, ↓onN_c, ↓onL_c, ↓Option.bind_some, ↓cond_true, ↓cond_false, decide_eq_true, decide_eq_false, Bool.not_true, Bool.not_false, Int.toNat_natCast, List.length_append, List.length_cons, List.length_nil, List.drop_zero, Nat.zero_add, Nat.add_zero, decT, decF, bneI_t, bneI_f, g1, g4, hw, hs0, hca, hkc]
        | false =>
          rw [item_q hbx] at nx ⊢
          have hk := bytesOf_append h32 (bytesOf_cells (([34] ++ x) ++ [34]))
          have hkc := (bytesOf_closed hk).1
          refine nx _ hk ?_
          rw [List.length_append, List.length_append, List.length_singleton]
          unfold F_lexeme_Join_L0
          clear h hc ih hb ha nx hk h32
          by_cases hne : x = []
          · subst hne
            have hs0 : (([] : List UInt8) == []) = true := rfl
            simp (disch := omega) only [onI_c, onS_c, onB_c, onN_c, onL_c, Option.bind_some, Option.map_some, cond_true, cond_false, ↓onI_c, ↓onS_c, ↓onB_c, ↓onN_c, ↓onL_c, ↓Option.bind_some, ↓cond_true, ↓cond_false, decide_eq_true, decide_eq_false, Bool.not_true, Bool.not_false, Int.toNat_natCast, List.length_append, List.length_cons, List.length_nil, List.drop_zero, Nat.zero_add, Nat.add_zero, decT, decF, bneI_t, bneI_f, g1, g4, hw, hs0, hkc]
          · have hca := hcat hne
            rw [hbx] at hca
            have hs0 : (x == []) = false := beq_f hne
            simp (disch := omega) only [onI_c, onS_c, onB_c, onN_c, onL_c, Option.bind_some, Option.map_some, cond_true, cond_false, ↓onI_c, ↓onS_c, ↓onB_c, ↓onN_c, ↓onL_c, ↓Option.bind_some, ↓cond_true, ↓cond_false, decide_eq_true, decide_eq_false, Bool.not_true, Bool.not_false, Int.toNat_natCast, List.length_append, List.length_cons, List.length_nil, List.drop_zero, Nat.zero_add, Nat.add_zero, decT, decF, bneI_t, bneI_f, g1, g4, hw, hs0, hca, hkc]
theorem join_at {xs : List (List UInt8)} {l : List AV} (h : strsOf l = some xs) (hN : xs.length ≤ 1000) (hb : ∀ x ∈ xs, x.length ≤ 2000) {n : Nat} (hn : n = xs.length) : F_lexeme_Join [.n n, .l l] = some [.s (joinV xs).1, .i (joinV xs).2] := by
  subst hn
  have k := join_run h hN hb xs.length 0 [] [] (by omega) rfl (by simp)
  rw [List.drop_zero, decide_eq_true rfl, joinR_V] at k
  unfold F_lexeme_Join
  simp only [onI_c, onS_c, onB_c, onN_c, onL_c, Option.bind_some, Option.map_some, cond_true, cond_false, ↓onI_c, ↓onS_c, ↓onB_c, ↓onN_c, ↓onL_c, ↓Option.bind_some, ↓cond_true, ↓cond_false, decide_eq_true, decide_eq_false, Bool.not_true, Bool.not_false, Int.toNat_natCast, List.length_append, List.length_cons, List.length_nil, List.drop_zero, Nat.zero_add, Nat.add_zero, decT, decF, bneI_t, bneI_f]
  exact k

/-! The document's way. -/
theorem cells_strings {τ : Tys} {e n : Nat} {c : List AV} (ht : tks τ 12 e = some [.string]) (h : CellOk τ (.slice e) (.seq (.sym n) c)) : ∃ xs, strsOf c = some xs ∧ n = xs.length := by
  cases h with
  | slice he hp hl hn h =>
    rw [ht] at he
    cases he
    have hl : c.length = n := by simpa using hl
    have key : ∀ (c : List AV), (∀ (i : Nat) (x : AV), c[i]? = some x → CellOk τ .string x) → ∃ xs, strsOf c = some xs := by
      intro c
      induction c with
      | nil => intro _; exact ⟨[], rfl⟩
      | cons x c ih =>
        intro hc
        obtain ⟨xs, hx⟩ := ih (fun i y q => hc (i + 1) y q)
        have h0 := hc 0 x rfl
        cases h0 with | str hs =>
        exact ⟨_ :: xs, by rw [strsOf_cons, hx]; rfl⟩
    obtain ⟨xs, hx⟩ := key c (fun i x q => h i x .string q (by simp [Nat.mod_one]))
    exact ⟨xs, hx, by rw [strsOf_len hx, hl]⟩

theorem fs_bare : ∀ {x : List UInt8} {out f r}, wrB x = true → (x.all fun c => decide (c.toNat ≠ 32 ∧ c.toNat ≠ 35)) = true → fs false true out f (x ++ r) = fs false true out (f ++ x) r
  | [], out, f, r, h, k => by simp
  | c :: x, out, f, r, h, k => by
    unfold wrB at h
    rw [List.all_cons, Bool.and_eq_true] at h k
    have h1 := of_decide_eq_true h.1
    have k1 := of_decide_eq_true k.1
    rw [List.cons_append, fs_byte ⟨h1.1, h1.2.1⟩ h1.2.2 (.inr k1), fs_bare h.2 k.2]
    simp
theorem fs_inq : ∀ {x : List UInt8} {out f r}, wrB x = true → fs true true out f (x ++ r) = fs true true out (f ++ x) r
  | [], out, f, r, h => by simp
  | c :: x, out, f, r, h => by
    unfold wrB at h
    rw [List.all_cons, Bool.and_eq_true] at h
    have h1 := of_decide_eq_true h.1
    rw [List.cons_append, fs_byte ⟨h1.1, h1.2.1⟩ h1.2.2 (.inl rfl), fs_inq h.2]
    simp
theorem fs_q {q bg out f t} : fs q bg out f (34 :: t) = fs (!q) true out f t := fs_quote rfl
theorem fs_item {x : List UInt8} {out r} (h : wrB x = true) : fs false false out [] (item x ++ r) = fs false true out x r := by
  unfold item
  cases hb : bareB x with
  | true =>
    rw [if_pos rfl]
    unfold bareB at hb
    rw [Bool.and_eq_true] at hb
    cases x with
    | nil => cases hb.1
    | cons c x =>
      rw [fs_begun (t := c :: x ++ r) (by
        have h0 : wrB (c :: x) = true := h
        unfold wrB at h0
        rw [List.all_cons, Bool.and_eq_true] at h0
        have h1 := of_decide_eq_true h0.1
        have k0 := hb.2
        rw [List.all_cons, Bool.and_eq_true] at k0
        have k1 := of_decide_eq_true k0.1
        exact fun q => q ⟨by omega, by omega, by omega⟩), fs_bare h hb.2]
      rfl
  | false =>
    rw [if_neg (by simp)]
    rw [show 34 :: x ++ [34] ++ r = 34 :: (x ++ 34 :: r) by simp, fs_q, show (!false) = true from rfl, fs_inq h, fs_q]
    rfl
def Ends (t : List UInt8) : Prop := (∀ out s, fs false true out s t = some (out ++ [s])) ∧ ∀ out, fs false false out [] t = some out
theorem fs_jn {t : List UInt8} (ht : Ends t) : ∀ {xs : List (List UInt8)} {out}, xs.all wrB = true → fs false false out [] (jn true xs ++ t) = some (out ++ xs)
  | [], out, h => by rw [jn, List.nil_append, ht.2, List.append_nil]
  | x :: xs, out, h => by
    rw [List.all_cons, Bool.and_eq_true] at h
    rw [jn, if_pos rfl, List.nil_append, List.append_assoc, fs_item h.1, jn_first]
    by_cases hx : xs = []
    · rw [if_pos hx, List.nil_append, ht.1, hx]
    · rw [if_neg hx, List.cons_append, fs_gap (.inr rfl)]
      show fs false false (out ++ [x]) [] _ = _
      rw [fs_jn ht h.2]
      simp
theorem ends_nil : Ends [] := ⟨fun out s => rfl, fun out => rfl⟩
theorem ends_hash (t : List UInt8) : Ends (35 :: t) := ⟨fun out s => fs_hash rfl, fun out => fs_hash rfl⟩
theorem ends_gap {t : List UInt8} (h : Ends t) : Ends (32 :: t) := ⟨fun out s => by rw [fs_gap (.inr rfl)]; exact h.2 _, fun out => by rw [fs_gap (.inr rfl)]; exact h.2 _⟩
theorem lead_gap {c : UInt8} {out t} (hc : c.toNat = 9 ∨ c.toNat = 32) : fs false false out [] (c :: t) = fs false false out [] t := by rw [fs_gap hc]; rfl
theorem fieldsV_of {s : List UInt8} {xs} (hl : s.length ≤ 300) (h : fs false false [] [] s = some xs) : fieldsV s = (xs, 0) := by
  rw [fieldsV_R, if_neg (by omega), h]; rfl
theorem jn_length : ∀ {xs : List (List UInt8)} {k : Nat} {f : Bool}, (∀ x ∈ xs, x.length ≤ k) → (jn f xs).length ≤ xs.length * (k + 3)
  | [], k, f, h => by simp [jn]
  | x :: xs, k, f, h => by
    rw [jn, List.length_append, List.length_append, List.length_cons, Nat.add_mul]
    have h1 := item_length x
    have h2 := h x (List.mem_cons_self ..)
    have h3 := jn_length (xs := xs) (k := k) (f := false) (fun y q => h y (List.mem_cons_of_mem _ q))
    have h4 : (if f = true then ([] : List UInt8) else [32]).length ≤ 1 := by split <;> simp
    omega

/-! Lines of the greatest length. -/
end Go.Proofs.YtgmmcmfnniaekaaDoor
