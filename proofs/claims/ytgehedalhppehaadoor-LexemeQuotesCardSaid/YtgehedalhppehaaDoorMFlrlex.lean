/-
  Fields: the document's way.
-/
import Derived.Test.YtgehedalhppehaaDoorMFldlex
namespace Go.Proofs.YtgehedalhppehaaDoor
open Go.Ax Go.Lib
set_option linter.all false
set_option maxHeartbeats 4000000
set_option maxRecDepth 100000
attribute [local congr] cond_cong bind_cong onI_cong onB_cong onS_cong onN_cong onL_cong

theorem plain_at (c : UInt8) : F_ref05_plain [.i ((c.toNat : Nat) : Int)] = some [.b (decide (33 ≤ c.toNat ∧ c.toNat ≤ 126 ∧ c.toNat ≠ 35 ∧ c.toNat ≠ 34))] := by
  unfold F_ref05_plain
  generalize c.toNat = n
  by_cases h1 : 33 ≤ n
  · by_cases h2 : n ≤ 126
    · by_cases h3 : n = 35
      · rw [decide_eq_false (by omega)]
        simp (disch := omega) only [onI_c, onS_c, onB_c, onN_c, onL_c, Option.bind_some, Option.map_some, cond_true, cond_false, ↓onI_c, ↓onS_c, ↓onB_c, ↓onN_c, ↓onL_c, ↓Option.bind_some, ↓cond_true, ↓cond_false, decide_eq_true, decide_eq_false, Bool.not_true, Bool.not_false, Int.toNat_natCast, List.length_append, List.length_cons, List.length_nil, List.drop_zero, Nat.zero_add, Nat.add_zero, decT, decF, bneI_t, bneI_f]
      · by_cases h4 : n = 34
        · rw [decide_eq_false (by omega)]
          simp (disch := omega) only [onI_c, onS_c, onB_c, onN_c, onL_c, Option.bind_some, Option.map_some, cond_true, cond_false, ↓onI_c, ↓onS_c, ↓onB_c, ↓onN_c, ↓onL_c, ↓Option.bind_some, ↓cond_true, ↓cond_false, decide_eq_true, decide_eq_false, Bool.not_true, Bool.not_false, Int.toNat_natCast, List.length_append, List.length_cons, List.length_nil, List.drop_zero, Nat.zero_add, Nat.add_zero, decT, decF, bneI_t, bneI_f]
        · rw [decide_eq_true (by omega)]
          simp (disch := omega) only [onI_c, onS_c, onB_c, onN_c, onL_c, Option.bind_some, Option.map_some, cond_true, cond_false, ↓onI_c, ↓onS_c, ↓onB_c, ↓onN_c, ↓onL_c, ↓Option.bind_some, ↓cond_true, ↓cond_false, decide_eq_true, decide_eq_false, Bool.not_true, Bool.not_false, Int.toNat_natCast, List.length_append, List.length_cons, List.length_nil, List.drop_zero, Nat.zero_add, Nat.add_zero, decT, decF, bneI_t, bneI_f]
    · rw [decide_eq_false (by omega)]
      simp (disch := omega) only [onI_c, onS_c, onB_c, onN_c, onL_c, Option.bind_some, Option.map_some, cond_true, cond_false, ↓onI_c, ↓onS_c, ↓onB_c, ↓onN_c, ↓onL_c, ↓Option.bind_some, ↓cond_true, ↓cond_false, decide_eq_true, decide_eq_false, Bool.not_true, Bool.not_false, Int.toNat_natCast, List.length_append, List.length_cons, List.length_nil, List.drop_zero, Nat.zero_add, Nat.add_zero, decT, decF, bneI_t, bneI_f]
  · rw [decide_eq_false (by omega)]
    simp (disch := omega) only [onI_c, onS_c, onB_c, onN_c, onL_c, Option.bind_some, Option.map_some, cond_true, cond_false, ↓onI_c, ↓onS_c, ↓onB_c, ↓onN_c, ↓onL_c, ↓Option.bind_some, ↓cond_true, ↓cond_false, decide_eq_true, decide_eq_false, Bool.not_true, Bool.not_false, Int.toNat_natCast, List.length_append, List.length_cons, List.length_nil, List.drop_zero, Nat.zero_add, Nat.add_zero, decT, decF, bneI_t, bneI_f]

/-- What is in quotes. -/
theorem quoted_run {line : List UInt8} (hl : line.length ≤ 300) : ∀ (t p part : List UInt8), line = p ++ part ++ t →
    (∃ more r, iter F_ref05_quoted_L0 [.s line, .i ((p.length : Nat) : Int), .i ((p.length + part.length : Nat) : Int)] = some [.s (part ++ more), .i ((p.length + part.length + more.length + 1 : Nat) : Int), .b true] ∧ t.length = more.length + 1 + r.length ∧ (∃ c, line = p ++ part ++ more ++ c :: r) ∧ ∀ out f bg, fs true bg out f t = fs false true out (f ++ more) r) ∨
    (iter F_ref05_quoted_L0 [.s line, .i ((p.length : Nat) : Int), .i ((p.length + part.length : Nat) : Int)] = some [.s [], .i 0, .b false] ∧ ∀ out f bg, fs true bg out f t = none) := by
  intro t
  induction t with
  | nil =>
    intro p part ht
    have hlen : line.length = p.length + part.length := by rw [ht]; simp
    refine .inr ⟨iter_end ?_, fun out f bg => rfl⟩
    unfold F_ref05_quoted_L0
    simp (disch := omega) only [onI_c, onS_c, onB_c, onN_c, onL_c, Option.bind_some, Option.map_some, cond_true, cond_false, ↓onI_c, ↓onS_c, ↓onB_c, ↓onN_c, ↓onL_c, ↓Option.bind_some, ↓cond_true, ↓cond_false, decide_eq_true, decide_eq_false, Bool.not_true, Bool.not_false, Int.toNat_natCast, List.length_append, List.length_cons, List.length_nil, List.drop_zero, Nat.zero_add, Nat.add_zero, decT, decF, bneI_t, bneI_f]
  | cons c t ih =>
    intro p part ht
    have hlen : line.length = p.length + part.length + (t.length + 1) := by rw [ht]; simp; omega
    have hg : line.getD (p.length + part.length) 0 = c := by rw [ht]; exact getD_mid
    have hi : i64 (((p.length + part.length : Nat) : Int) + 1) = ((p.length + part.length + 1 : Nat) : Int) := by rw [i64_in _ (by omega)]; omega
    by_cases h34 : c.toNat = 34
    · refine .inl ⟨[], t, iter_end ?_, by simp; omega, ⟨c, by rw [ht]; simp⟩, fun out f bg => by rw [fs_quote h34, List.append_nil]; rfl⟩
      have e1 : List.take (p.length + part.length - p.length) (List.drop p.length line) = part := by rw [ht]; simp
      unfold F_ref05_quoted_L0
      rw [List.append_nil]
      clear ih ht
      simp (disch := omega) only [onI_c, onS_c, onB_c, onN_c, onL_c, Option.bind_some, Option.map_some, cond_true, cond_false, ↓onI_c, ↓onS_c, ↓onB_c, ↓onN_c, ↓onL_c, ↓Option.bind_some, ↓cond_true, ↓cond_false, decide_eq_true, decide_eq_false, Bool.not_true, Bool.not_false, Int.toNat_natCast, List.length_append, List.length_cons, List.length_nil, List.drop_zero, Nat.zero_add, Nat.add_zero, decT, decF, bneI_t, bneI_f, hg, hi, e1]
    by_cases hb : c.toNat < 32 ∨ 126 < c.toNat
    · refine .inr ⟨iter_end ?_, fun out f bg => fs_bad hb (.inr rfl)⟩
      unfold F_ref05_quoted_L0
      clear ih ht
      rcases hb with hb | hb
      · simp (disch := omega) only [onI_c, onS_c, onB_c, onN_c, onL_c, Option.bind_some, Option.map_some, cond_true, cond_false, ↓onI_c, ↓onS_c, ↓onB_c, ↓onN_c, ↓onL_c, ↓Option.bind_some, ↓cond_true, ↓cond_false, decide_eq_true, decide_eq_false, Bool.not_true, Bool.not_false, Int.toNat_natCast, List.length_append, List.length_cons, List.length_nil, List.drop_zero, Nat.zero_add, Nat.add_zero, decT, decF, bneI_t, bneI_f, hg, hi]
      · simp (disch := omega) only [onI_c, onS_c, onB_c, onN_c, onL_c, Option.bind_some, Option.map_some, cond_true, cond_false, ↓onI_c, ↓onS_c, ↓onB_c, ↓onN_c, ↓onL_c, ↓Option.bind_some, ↓cond_true, ↓cond_false, decide_eq_true, decide_eq_false, Bool.not_true, Bool.not_false, Int.toNat_natCast, List.length_append, List.length_cons, List.length_nil, List.drop_zero, Nat.zero_add, Nat.add_zero, decT, decF, bneI_t, bneI_f, hg, hi]
    · have st : F_ref05_quoted_L0 [.s line, .i ((p.length : Nat) : Int), .i ((p.length + part.length : Nat) : Int)] = some (.inl [.s line, .i ((p.length : Nat) : Int), .i ((p.length + (part ++ [c]).length : Nat) : Int)]) := by
        unfold F_ref05_quoted_L0
        rw [show p.length + (part ++ [c]).length = p.length + part.length + 1 by simp; omega]
        clear ih ht
        simp (disch := omega) only [onI_c, onS_c, onB_c, onN_c, onL_c, Option.bind_some, Option.map_some, cond_true, cond_false, ↓onI_c, ↓onS_c, ↓onB_c, ↓onN_c, ↓onL_c, ↓Option.bind_some, ↓cond_true, ↓cond_false, decide_eq_true, decide_eq_false, Bool.not_true, Bool.not_false, Int.toNat_natCast, List.length_append, List.length_cons, List.length_nil, List.drop_zero, Nat.zero_add, Nat.add_zero, decT, decF, bneI_t, bneI_f, hg, hi]
      rcases ih p (part ++ [c]) (by rw [ht]; simp) with ⟨more, r, k1, k2, ⟨d, k3⟩, k4⟩ | ⟨k1, k2⟩
      · refine .inl ⟨c :: more, r, ?_, by simp; omega, ⟨d, by rw [k3]; simp⟩, fun out f bg => ?_⟩
        · rw [iter_next st, k1]
          congr 2
          · congr 1; simp
          · congr 1
            congr 1
            simp; omega
        · rw [fs_byte (by omega) h34 (.inl rfl), k4]; simp
      · exact .inr ⟨by rw [iter_next st, k1], fun out f bg => by rw [fs_byte (by omega) h34 (.inl rfl), k2]⟩
theorem quoted_at {line : List UInt8} (hl : line.length ≤ 300) (p t : List UInt8) (ht : line = p ++ t) :
    (∃ more r, F_ref05_quoted [.s line, .i ((p.length : Nat) : Int)] = some [.s more, .i ((p.length + more.length + 1 : Nat) : Int), .b true] ∧ t.length = more.length + 1 + r.length ∧ (∃ c, line = p ++ more ++ c :: r) ∧ ∀ out f bg, fs true bg out f t = fs false true out (f ++ more) r) ∨
    (F_ref05_quoted [.s line, .i ((p.length : Nat) : Int)] = some [.s [], .i 0, .b false] ∧ ∀ out f bg, fs true bg out f t = none) := by
  have e : F_ref05_quoted [.s line, .i ((p.length : Nat) : Int)] = iter F_ref05_quoted_L0 [.s line, .i ((p.length : Nat) : Int), .i ((p.length : Nat) : Int)] := by
    unfold F_ref05_quoted
    simp only [onI_c, onS_c, onB_c, onN_c, onL_c, Option.bind_some, Option.map_some, cond_true, cond_false, ↓onI_c, ↓onS_c, ↓onB_c, ↓onN_c, ↓onL_c, ↓Option.bind_some, ↓cond_true, ↓cond_false, decide_eq_true, decide_eq_false, Bool.not_true, Bool.not_false, Int.toNat_natCast, List.length_append, List.length_cons, List.length_nil, List.drop_zero, Nat.zero_add, Nat.add_zero, decT, decF, bneI_t, bneI_f]
  rw [e]
  rcases quoted_run hl t p [] (by rw [ht]; simp) with ⟨more, r, k1, k2, ⟨c, k3⟩, k4⟩ | ⟨k1, k2⟩
  · exact .inl ⟨more, r, by simpa using k1, k2, ⟨c, by simpa using k3⟩, k4⟩
  · exact .inr ⟨by simpa using k1, k2⟩

/-- A field ends here. -/
def stop : List UInt8 → Prop
  | [] => True
  | c :: _ => ¬ (33 ≤ c.toNat ∧ c.toNat ≤ 126 ∧ c.toNat ≠ 35)
theorem field_run {line : List UInt8} (hl : line.length ≤ 300) : ∀ (n : Nat) (t p f : List UInt8), t.length ≤ n → line = p ++ t → f.length ≤ p.length →
    (∃ s p' r, iter F_ref05_field_L0 [.s line, .i ((p.length : Nat) : Int), .s f] = some [.s s, .i ((p'.length : Nat) : Int), .b true] ∧ line = p' ++ r ∧ r.length ≤ t.length ∧ (¬ stop t → r.length < t.length) ∧ stop r ∧ s.length ≤ p'.length ∧ ∀ out, fs false true out f t = fs false true out s r) ∨
    (iter F_ref05_field_L0 [.s line, .i ((p.length : Nat) : Int), .s f] = some [.s [], .i 0, .b false] ∧ ¬ stop t ∧ ∀ out bg, fs false bg out f t = none) := by
  intro n
  induction n with
  | zero =>
    intro t p f hn ht hf
    have : t = [] := List.eq_nil_of_length_eq_zero (by omega)
    subst this
    have hlen : line.length = p.length := by rw [ht]; simp
    refine .inl ⟨f, p, [], iter_end ?_, ht, by simp, fun h => absurd trivial h, trivial, hf, fun out => rfl⟩
    unfold F_ref05_field_L0
    simp (disch := omega) only [onI_c, onS_c, onB_c, onN_c, onL_c, Option.bind_some, Option.map_some, cond_true, cond_false, ↓onI_c, ↓onS_c, ↓onB_c, ↓onN_c, ↓onL_c, ↓Option.bind_some, ↓cond_true, ↓cond_false, decide_eq_true, decide_eq_false, Bool.not_true, Bool.not_false, Int.toNat_natCast, List.length_append, List.length_cons, List.length_nil, List.drop_zero, Nat.zero_add, Nat.add_zero, decT, decF, bneI_t, bneI_f]
  | succ n ih =>
    intro t p f hn ht hf
    cases t with
    | nil =>
      have hlen : line.length = p.length := by rw [ht]; simp
      refine .inl ⟨f, p, [], iter_end ?_, ht, by simp, fun h => absurd trivial h, trivial, hf, fun out => rfl⟩
      unfold F_ref05_field_L0
      simp (disch := omega) only [onI_c, onS_c, onB_c, onN_c, onL_c, Option.bind_some, Option.map_some, cond_true, cond_false, ↓onI_c, ↓onS_c, ↓onB_c, ↓onN_c, ↓onL_c, ↓Option.bind_some, ↓cond_true, ↓cond_false, decide_eq_true, decide_eq_false, Bool.not_true, Bool.not_false, Int.toNat_natCast, List.length_append, List.length_cons, List.length_nil, List.drop_zero, Nat.zero_add, Nat.add_zero, decT, decF, bneI_t, bneI_f]
    | cons c t =>
      have hlen : line.length = p.length + (t.length + 1) := by rw [ht]; simp
      have hg : line.getD p.length 0 = c := by rw [ht]; exact getD_at p t c
      have hi : i64 (((p.length : Nat) : Int) + 1) = ((p.length + 1 : Nat) : Int) := by rw [i64_in _ (by omega)]; omega
      have hpl := plain_at c
      have hp2 : (p ++ [c]).length = p.length + 1 := by simp
      have ht2 : line = p ++ [c] ++ t := by rw [ht]; simp
      by_cases hp : 33 ≤ c.toNat ∧ c.toNat ≤ 126 ∧ c.toNat ≠ 35 ∧ c.toNat ≠ 34
      · rw [decide_eq_true hp] at hpl
        have e1 : List.take (p.length + 1 - p.length) (List.drop p.length line) = [c] := by rw [ht]; simp
        have st : F_ref05_field_L0 [.s line, .i ((p.length : Nat) : Int), .s f] = some (.inl [.s line, .i (((p ++ [c]).length : Nat) : Int), .s (f ++ [c])]) := by
          rw [hp2]
          unfold F_ref05_field_L0
          clear ih ht ht2
          simp (disch := omega) only [onI_c, onS_c, onB_c, onN_c, onL_c, Option.bind_some, Option.map_some, cond_true, cond_false, ↓onI_c, ↓onS_c, ↓onB_c, ↓onN_c, ↓onL_c, ↓Option.bind_some, ↓cond_true, ↓cond_false, decide_eq_true, decide_eq_false, Bool.not_true, Bool.not_false, Int.toNat_natCast, List.length_append, List.length_cons, List.length_nil, List.drop_zero, Nat.zero_add, Nat.add_zero, decT, decF, bneI_t, bneI_f, hg, hi, hpl, e1]
        have hfs : ∀ out bg, fs false bg out f (c :: t) = fs false true out (f ++ [c]) t := fun out bg => fs_byte (by omega) hp.2.2.2 (.inr ⟨by omega, hp.2.2.1⟩)
        rcases ih t (p ++ [c]) (f ++ [c]) (by simp at hn; omega) ht2 (by simp; omega) with ⟨s, p', r, k1, k2, k3, k4, k5, k6, k7⟩ | ⟨k1, k0, k2⟩
        · exact .inl ⟨s, p', r, by rw [iter_next st, k1], k2, by simp; omega, fun _ => by simp; omega, k5, k6, fun out => by rw [hfs, k7]⟩
        · exact .inr ⟨by rw [iter_next st, k1], fun h => h ⟨hp.1, hp.2.1, hp.2.2.1⟩, fun out bg => by rw [hfs, k2]⟩
      · rw [decide_eq_false hp] at hpl
        by_cases h34 : c.toNat = 34
        · have hfs : ∀ out bg, fs false bg out f (c :: t) = fs true true out f t := fun out bg => by rw [fs_quote h34]; rfl
          rcases quoted_at hl (p ++ [c]) t ht2 with ⟨more, r, k1, k2, ⟨d, k3⟩, k4⟩ | ⟨k1, k2⟩
          · have hP : (p ++ [c] ++ more ++ [d]).length = (p ++ [c]).length + more.length + 1 := by rw [List.length_append, List.length_append, List.length_singleton]
            have st : F_ref05_field_L0 [.s line, .i ((p.length : Nat) : Int), .s f] = some (.inl [.s line, .i (((p ++ [c] ++ more ++ [d]).length : Nat) : Int), .s (f ++ more)]) := by
              rw [hP]
              rw [hp2] at k1 ⊢
              unfold F_ref05_field_L0
              have hml : more.length ≤ 300 := by omega
              clear ih ht ht2 k3 k4
              simp (disch := omega) only [onI_c, onS_c, onB_c, onN_c, onL_c, Option.bind_some, Option.map_some, cond_true, cond_false, ↓onI_c, ↓onS_c, ↓onB_c, ↓onN_c, ↓onL_c, ↓Option.bind_some, ↓cond_true, ↓cond_false, decide_eq_true, decide_eq_false, Bool.not_true, Bool.not_false, Int.toNat_natCast, List.length_append, List.length_cons, List.length_nil, List.drop_zero, Nat.zero_add, Nat.add_zero, decT, decF, bneI_t, bneI_f, hg, hi, hpl, k1]
            rcases ih r (p ++ [c] ++ more ++ [d]) (f ++ more) (by simp at hn; omega) (by rw [k3]; simp) (by simp; omega) with ⟨s, p', r', m1, m2, m3, m4, m5, m6, m7⟩ | ⟨m1, m0, m2⟩
            · exact .inl ⟨s, p', r', by rw [iter_next st, m1], m2, by simp; omega, fun _ => by simp; omega, m5, m6, fun out => by rw [hfs, k4, m7]⟩
            · exact .inr ⟨by rw [iter_next st, m1], fun h => h ⟨by omega, by omega, by omega⟩, fun out bg => by rw [hfs, k4, m2]⟩
          · refine .inr ⟨iter_end ?_, fun h => h ⟨by omega, by omega, by omega⟩, fun out bg => by rw [hfs, k2]⟩
            rw [hp2] at k1
            unfold F_ref05_field_L0
            clear ih ht ht2 k2
            simp (disch := omega) only [onI_c, onS_c, onB_c, onN_c, onL_c, Option.bind_some, Option.map_some, cond_true, cond_false, ↓onI_c, ↓onS_c, ↓onB_c, ↓onN_c, ↓onL_c, ↓Option.bind_some, ↓cond_true, ↓cond_false, decide_eq_true, decide_eq_false, Bool.not_true, Bool.not_false, Int.toNat_natCast, List.length_append, List.length_cons, List.length_nil, List.drop_zero, Nat.zero_add, Nat.add_zero, decT, decF, bneI_t, bneI_f, hg, hi, hpl, k1]
        · have hst : stop (c :: t) := fun q => hp ⟨q.1, q.2.1, q.2.2, h34⟩
          refine .inl ⟨f, p, c :: t, iter_end ?_, ht, Nat.le_refl _, fun h => absurd hst h, hst, hf, fun out => rfl⟩
          unfold F_ref05_field_L0
          clear ih ht ht2
          simp (disch := omega) only [onI_c, onS_c, onB_c, onN_c, onL_c, Option.bind_some, Option.map_some, cond_true, cond_false, ↓onI_c, ↓onS_c, ↓onB_c, ↓onN_c, ↓onL_c, ↓Option.bind_some, ↓cond_true, ↓cond_false, decide_eq_true, decide_eq_false, Bool.not_true, Bool.not_false, Int.toNat_natCast, List.length_append, List.length_cons, List.length_nil, List.drop_zero, Nat.zero_add, Nat.add_zero, decT, decF, bneI_t, bneI_f, hg, hi, hpl]
end Go.Proofs.YtgehedalhppehaaDoor
