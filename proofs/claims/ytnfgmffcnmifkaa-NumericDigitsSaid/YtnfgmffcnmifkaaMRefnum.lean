/-
  Numeric abbreviations: the document's parser.
-/
import Derived.Test.YtnfgmffcnmifkaaMReadnum
namespace Go.Proofs.Ytnfgmffcnmifkaa
open Go.Ax
set_option linter.all false
set_option maxHeartbeats 8000000
attribute [local congr] cond_cong bind_cong onI_cong onB_cong onS_cong onN_cong onL_cong

def isD (s : List UInt8) (i : Nat) : Prop := 48 ≤ (s.getD i 0).toNat ∧ (s.getD i 0).toNat ≤ 57
instance (s : List UInt8) (i : Nat) : Decidable (isD s i) := by unfold isD; infer_instance
theorem DD_dig {s : List UInt8} {i : Nat} (h1 : isD s i) (h2 : isD s (i + 1)) : DD s i = 10 * ((s.getD i 0).toNat - 48 : Int) + ((s.getD (i + 1) 0).toNat - 48 : Int) ∧ 0 ≤ DD s i := by
  unfold isD at h1 h2
  unfold DD
  rw [u8_in _ (by omega), u8_in _ (by omega)]; omega
theorem rtwo_at {s : List UInt8} {i : Nat} (hi : i ≤ 1000) (hl : s.length ≤ 100) : F_ref20_two [.s s, .i (i : Int)] = some [.i (if i + 2 ≤ s.length ∧ isD s i ∧ isD s (i + 1) then DD s i else -1)] := by
  unfold F_ref20_two
  have e1 : i64 ((i : Int) + 1) = ((i + 1 : Nat) : Int) := by rw [i64_in _ (by omega)]; omega
  have e2 : i64 ((i : Int) + 2) = ((i + 2 : Nat) : Int) := by rw [i64_in _ (by omega)]; omega
  by_cases h : i + 2 ≤ s.length
  · by_cases h1 : isD s i
    · by_cases h2 : isD s (i + 1)
      · rw [if_pos ⟨h, h1, h2⟩]
        have hd := DD_dig h1 h2
        have g1 := u8_rng (((s.getD i 0).toNat : Int) - 48)
        have g2 := u8_rng (((s.getD (i + 1) 0).toNat : Int) - 48)
        have e3 : i64 (10 * i64 (u8 (((s.getD i 0).toNat : Int) - 48))) = 10 * u8 (((s.getD i 0).toNat : Int) - 48) := by rw [i64_in (u8 _) (by omega), i64_in _ (by omega)]
        have e4 : i64 (10 * u8 (((s.getD i 0).toNat : Int) - 48) + i64 (u8 (((s.getD (i + 1) 0).toNat : Int) - 48))) = DD s i := by rw [i64_in (u8 _) (by omega), i64_in _ (by omega)]; rfl
        clear hd g1 g2
        unfold isD at h1 h2
        obtain ⟨h1, h1'⟩ := h1
        obtain ⟨h2, h2'⟩ := h2
        simp (disch := omega) only [onI_c, onS_c, onB_c, onN_c, onL_c, Option.bind_some, Option.map_some, cond_true, cond_false, ↓onI_c, ↓onS_c, ↓onB_c, ↓onN_c, ↓onL_c, ↓Option.bind_some, ↓cond_true, ↓cond_false, decide_eq_true, decide_eq_false, Bool.not_true, Bool.not_false, Int.toNat_natCast, List.length_append, List.length_cons, List.length_nil, List.drop_zero, Nat.zero_add, Nat.add_zero, decT, decF, bneI_t, bneI_f, e1, e2, e3, e4]
      · rw [if_neg (fun q => h2 q.2.2)]
        unfold isD at h1 h2
        by_cases h3 : (s.getD (i + 1) 0).toNat < 48
        · simp (disch := omega) only [onI_c, onS_c, onB_c, onN_c, onL_c, Option.bind_some, Option.map_some, cond_true, cond_false, ↓onI_c, ↓onS_c, ↓onB_c, ↓onN_c, ↓onL_c, ↓Option.bind_some, ↓cond_true, ↓cond_false, decide_eq_true, decide_eq_false, Bool.not_true, Bool.not_false, Int.toNat_natCast, List.length_append, List.length_cons, List.length_nil, List.drop_zero, Nat.zero_add, Nat.add_zero, decT, decF, bneI_t, bneI_f, e1, e2]
        · simp (disch := omega) only [onI_c, onS_c, onB_c, onN_c, onL_c, Option.bind_some, Option.map_some, cond_true, cond_false, ↓onI_c, ↓onS_c, ↓onB_c, ↓onN_c, ↓onL_c, ↓Option.bind_some, ↓cond_true, ↓cond_false, decide_eq_true, decide_eq_false, Bool.not_true, Bool.not_false, Int.toNat_natCast, List.length_append, List.length_cons, List.length_nil, List.drop_zero, Nat.zero_add, Nat.add_zero, decT, decF, bneI_t, bneI_f, e1, e2]
    · rw [if_neg (fun q => h1 q.2.1)]
      unfold isD at h1
      by_cases h3 : (s.getD i 0).toNat < 48
      · simp (disch := omega) only [onI_c, onS_c, onB_c, onN_c, onL_c, Option.bind_some, Option.map_some, cond_true, cond_false, ↓onI_c, ↓onS_c, ↓onB_c, ↓onN_c, ↓onL_c, ↓Option.bind_some, ↓cond_true, ↓cond_false, decide_eq_true, decide_eq_false, Bool.not_true, Bool.not_false, Int.toNat_natCast, List.length_append, List.length_cons, List.length_nil, List.drop_zero, Nat.zero_add, Nat.add_zero, decT, decF, bneI_t, bneI_f, e1, e2]
      · simp (disch := omega) only [onI_c, onS_c, onB_c, onN_c, onL_c, Option.bind_some, Option.map_some, cond_true, cond_false, ↓onI_c, ↓onS_c, ↓onB_c, ↓onN_c, ↓onL_c, ↓Option.bind_some, ↓cond_true, ↓cond_false, decide_eq_true, decide_eq_false, Bool.not_true, Bool.not_false, Int.toNat_natCast, List.length_append, List.length_cons, List.length_nil, List.drop_zero, Nat.zero_add, Nat.add_zero, decT, decF, bneI_t, bneI_f, e1, e2]
  · rw [if_neg (fun q => h q.1)]
    simp (disch := omega) only [onI_c, onS_c, onB_c, onN_c, onL_c, Option.bind_some, Option.map_some, cond_true, cond_false, ↓onI_c, ↓onS_c, ↓onB_c, ↓onN_c, ↓onL_c, ↓Option.bind_some, ↓cond_true, ↓cond_false, decide_eq_true, decide_eq_false, Bool.not_true, Bool.not_false, Int.toNat_natCast, List.length_append, List.length_cons, List.length_nil, List.drop_zero, Nat.zero_add, Nat.add_zero, decT, decF, bneI_t, bneI_f, e1, e2]

theorem step_rp {s : List UInt8} {x u : Int} {i : Nat} (hi : i < s.length) (hl : s.length ≤ 100) (hx : 0 ≤ x ∧ x ≤ 1000000000) (hu : 0 < u ∧ u ≤ 3600) :
    F_ref20_Parse_L0 [.s s, .i x, .i u, .i (i : Int)] = if i + 2 ≤ s.length ∧ isD s i ∧ isD s (i + 1) then some (.inl [.s s, .i (x + DD s i * u), .i (u / 60), .i ((i + 2 : Nat) : Int)]) else some (.inr [.i 0, .i 5]) := by
  unfold F_ref20_Parse_L0
  have t := rtwo_at (s := s) (i := i) (by omega) hl
  have e2 : i64 ((i : Int) + 2) = ((i + 2 : Nat) : Int) := by rw [i64_in _ (by omega)]; omega
  have e6 : i64 (Int.tdiv u 60) = u / 60 := by rw [tdiv_nn (by omega), i64_in _ (by omega)]
  have h3 := mul_rng (DD_rng s i) (u := u) (by omega)
  have e5 : i64 (x + i64 (DD s i * u)) = x + DD s i * u := by rw [i64_in (DD s i * u) (by omega), i64_in _ (by omega)]
  have hd := DD_rng s i
  clear h3
  by_cases h : i + 2 ≤ s.length ∧ isD s i ∧ isD s (i + 1)
  · rw [if_pos h] at t ⊢
    clear h
    simp (disch := omega) only [onI_c, onS_c, onB_c, onN_c, onL_c, Option.bind_some, Option.map_some, cond_true, cond_false, ↓onI_c, ↓onS_c, ↓onB_c, ↓onN_c, ↓onL_c, ↓Option.bind_some, ↓cond_true, ↓cond_false, decide_eq_true, decide_eq_false, Bool.not_true, Bool.not_false, Int.toNat_natCast, List.length_append, List.length_cons, List.length_nil, List.drop_zero, Nat.zero_add, Nat.add_zero, decT, decF, bneI_t, bneI_f, t, e2, e5, e6]
  · rw [if_neg h] at t ⊢
    clear h
    simp (disch := omega) only [onI_c, onS_c, onB_c, onN_c, onL_c, Option.bind_some, Option.map_some, cond_true, cond_false, ↓onI_c, ↓onS_c, ↓onB_c, ↓onN_c, ↓onL_c, ↓Option.bind_some, ↓cond_true, ↓cond_false, decide_eq_true, decide_eq_false, Bool.not_true, Bool.not_false, Int.toNat_natCast, List.length_append, List.length_cons, List.length_nil, List.drop_zero, Nat.zero_add, Nat.add_zero, decT, decF, bneI_t, bneI_f, t]
def rfin (s : List UInt8) (o : Int) : List Dat := if s = [] then [.i 0, .i 5] else fin s o
theorem end_rp {s : List UInt8} {x u : Int} {i : Nat} (h : s.length ≤ i ∨ u ≤ 0) (hx : 0 ≤ x ∧ x ≤ 1000000000) :
    F_ref20_Parse_L0 [.s s, .i x, .i u, .i (i : Int)] = some (.inr (rfin s x)) := by
  unfold F_ref20_Parse_L0
  have hb : (bif (decide ((i : Int) < (((s).length : Nat) : Int))) then (bif (decide (0 < u)) then (some true) else (some false)) else (some false)) = some false := by
    rcases h with h | h
    · rw [decide_eq_false (by omega)]; rfl
    · rw [decide_eq_false (p := 0 < u) (by omega)]; cases decide ((i : Int) < (((s).length : Nat) : Int)) <;> rfl
  have e1 : i64 (0 - x) = -x := by rw [i64_in _ (by omega)]; omega
  have t1 := rtext_at (x := -x) (by omega)
  have t2 := rtext_at (x := x) (by omega)
  clear h
  unfold rfin fin sgn
  cases s with
  | nil =>
    rw [if_pos rfl]
    simp (disch := omega) only [onI_c, onS_c, onB_c, onN_c, onL_c, Option.bind_some, Option.map_some, cond_true, cond_false, ↓onI_c, ↓onS_c, ↓onB_c, ↓onN_c, ↓onL_c, ↓Option.bind_some, ↓cond_true, ↓cond_false, decide_eq_true, decide_eq_false, Bool.not_true, Bool.not_false, Int.toNat_natCast, List.length_append, List.length_cons, List.length_nil, List.drop_zero, Nat.zero_add, Nat.add_zero, decT, decF, bneI_t, bneI_f, hb, beq_self_eq_true]
  | cons c s =>
    rw [if_neg (by simp)]
    have hn : ((c :: s) == ([] : List UInt8)) = false := rfl
    have hlen : (0 : Int) < (((c :: s).length : Nat) : Int) := by simp
    generalize hcs : c :: s = w at *
    by_cases hs : (((w.getD 0 0).toNat : Nat) : Int) = 45
    · rw [if_pos hs]
      by_cases hq : NT (-x) = w
      · rw [if_pos hq]
        simp (disch := omega) only [onI_c, onS_c, onB_c, onN_c, onL_c, Option.bind_some, Option.map_some, cond_true, cond_false, ↓onI_c, ↓onS_c, ↓onB_c, ↓onN_c, ↓onL_c, ↓Option.bind_some, ↓cond_true, ↓cond_false, decide_eq_true, decide_eq_false, Bool.not_true, Bool.not_false, Int.toNat_natCast, List.length_append, List.length_cons, List.length_nil, List.drop_zero, Nat.zero_add, Nat.add_zero, decT, decF, bneI_t, bneI_f, hb, hn, hs, e1, t1, hq, beq_self_eq_true]
      · rw [if_neg hq]
        simp (disch := omega) only [onI_c, onS_c, onB_c, onN_c, onL_c, Option.bind_some, Option.map_some, cond_true, cond_false, ↓onI_c, ↓onS_c, ↓onB_c, ↓onN_c, ↓onL_c, ↓Option.bind_some, ↓cond_true, ↓cond_false, decide_eq_true, decide_eq_false, Bool.not_true, Bool.not_false, Int.toNat_natCast, List.length_append, List.length_cons, List.length_nil, List.drop_zero, Nat.zero_add, Nat.add_zero, decT, decF, bneI_t, bneI_f, hb, hn, hs, e1, t1, beq_f hq]
    · rw [if_neg hs]
      by_cases hq : NT x = w
      · rw [if_pos hq]
        simp (disch := omega) only [onI_c, onS_c, onB_c, onN_c, onL_c, Option.bind_some, Option.map_some, cond_true, cond_false, ↓onI_c, ↓onS_c, ↓onB_c, ↓onN_c, ↓onL_c, ↓Option.bind_some, ↓cond_true, ↓cond_false, decide_eq_true, decide_eq_false, Bool.not_true, Bool.not_false, Int.toNat_natCast, List.length_append, List.length_cons, List.length_nil, List.drop_zero, Nat.zero_add, Nat.add_zero, decT, decF, bneI_t, bneI_f, hb, hn, hs, e1, t2, hq, beq_self_eq_true]
      · rw [if_neg hq]
        simp (disch := omega) only [onI_c, onS_c, onB_c, onN_c, onL_c, Option.bind_some, Option.map_some, cond_true, cond_false, ↓onI_c, ↓onS_c, ↓onB_c, ↓onN_c, ↓onL_c, ↓Option.bind_some, ↓cond_true, ↓cond_false, decide_eq_true, decide_eq_false, Bool.not_true, Bool.not_false, Int.toNat_natCast, List.length_append, List.length_cons, List.length_nil, List.drop_zero, Nat.zero_add, Nat.add_zero, decT, decF, bneI_t, bneI_f, hb, hn, hs, e1, t2, beq_f hq]
def Out (s : List UInt8) (r : List Dat) : Prop := r = [.i 0, .i 5] ∨ ∃ y, r = [.i y, .i 0] ∧ NT y = s ∧ s ≠ []
theorem out_rfin (s : List UInt8) (o : Int) : Out s (rfin s o) := by
  unfold rfin fin
  by_cases h : s = []
  · rw [if_pos h]; exact .inl rfl
  · rw [if_neg h]
    by_cases q : NT (sgn s o) = s
    · rw [if_pos q]; exact .inr ⟨_, rfl, q, h⟩
    · rw [if_neg q]; exact .inl rfl
theorem rp_step {s : List UInt8} (hl : s.length ≤ 100) {u B : Int} (hu : 0 ≤ u ∧ u ≤ 3600) (hB : B + 10098000 ≤ 1000000000) (hB0 : 0 ≤ B)
    (next : u ≠ 0 → ∀ (x : Int) (i : Nat), 0 ≤ x ∧ x ≤ B + 10098000 → ∃ r, iter F_ref20_Parse_L0 [.s s, .i x, .i (u / 60), .i (i : Int)] = some r ∧ Out s r) :
    ∀ (x : Int) (i : Nat), 0 ≤ x ∧ x ≤ B → ∃ r, iter F_ref20_Parse_L0 [.s s, .i x, .i u, .i (i : Int)] = some r ∧ Out s r := by
  intro x i hx
  by_cases h : s.length ≤ i ∨ u ≤ 0
  · exact ⟨_, iter_end (end_rp h (by omega)), out_rfin _ _⟩
  · have st := step_rp (s := s) (x := x) (u := u) (i := i) (by omega) hl (by omega) (by omega)
    by_cases hd : i + 2 ≤ s.length ∧ isD s i ∧ isD s (i + 1)
    · rw [if_pos hd] at st
      rw [iter_next st]
      have := mul_rng (DD_rng s i) (u := u) (by omega)
      exact next (by omega) _ _ (by omega)
    · rw [if_neg hd] at st
      exact ⟨_, iter_end st, .inl rfl⟩
theorem rparse_out {s : List UInt8} (hl : s.length ≤ 100) : ∃ r, F_ref20_Parse [.s s] = some r ∧ Out s r := by
  unfold F_ref20_Parse
  simp only [onS_c]
  have g0 := rp_step (u := 0) (B := 30294000) hl (by omega) (by omega) (by omega) (fun h => absurd rfl h)
  have g1 := rp_step (u := 1) (B := 20196000) hl (by omega) (by omega) (by omega) (fun _ => g0)
  have g60 := rp_step (u := 60) (B := 10098000) hl (by omega) (by omega) (by omega) (fun _ => g1)
  have g3 := rp_step (u := 3600) (B := 0) hl (by omega) (by omega) (by omega) (fun _ => g60)
  exact g3 0 1 (by omega)
theorem rparse_no {s : List UInt8} (hl : s.length ≤ 100) (h : ∀ x, -86399 ≤ x ∧ x ≤ 86399 → NT x ≠ s) : F_ref20_Parse [.s s] = some [.i 0, .i 5] := by
  obtain ⟨r, h1, h2 | ⟨y, h2, h3, h4⟩⟩ := rparse_out hl
  · rw [h1, h2]
  · by_cases q : y < -86399 ∨ 86399 < y
    · rw [NT_out q] at h3; exact absurd h3.symm h4
    · exact absurd h3 (h y (by omega))
theorem isD_dg {s : List UInt8} {i : Nat} {p : Int} (h : 0 ≤ p ∧ p ≤ 9) (e : s.getD i 0 = dg p) : isD s i := by
  unfold isD; rw [e]; have := dg_val h; omega
theorem rparse_NB {n : Int} (h : 0 ≤ n ∧ n ≤ 86399) (c : UInt8) : F_ref20_Parse [.s (c :: NB n)] = some (rfin (c :: NB n) (val (c :: NB n))) := by
  unfold F_ref20_Parse
  simp only [onS_c]
  rw [show ((1 : Int)) = ((1 : Nat) : Int) from rfl]
  have v1 := (val_NB h c).2
  rw [v1]
  rcases NB_cases h c with ⟨h1, e⟩ | ⟨h1, h2, e⟩ | ⟨h1, h2, e⟩
  · rw [e]
    have d1 := DD_dg (s := [c, dg (n / 3600 / 10), dg (n / 3600 % 10)]) (i := 1) (p := n / 3600 / 10) (q := n / 3600 % 10) (by omega) (by omega) rfl rfl
    have s1 := step_rp (s := [c, dg (n / 3600 / 10), dg (n / 3600 % 10)]) (x := 0) (u := 3600) (i := 1) (by simp) (by simp) (by omega) (by omega)
    rw [if_pos ⟨by simp, isD_dg (p := n / 3600 / 10) (by omega) rfl, isD_dg (p := n / 3600 % 10) (by omega) rfl⟩, d1] at s1
    rw [iter_next s1, iter_end (end_rp (.inl (by simp)) (by omega))]
    congr 2; omega
  · rw [e]
    generalize hw : [c, dg (n / 3600 / 10), dg (n / 3600 % 10), dg (n / 60 % 60 / 10), dg (n / 60 % 60 % 10)] = w
    have hwl : w.length = 5 := by rw [← hw]; rfl
    have d1 := DD_dg (s := w) (i := 1) (p := n / 3600 / 10) (q := n / 3600 % 10) (by omega) (by omega) (by rw [← hw]; rfl) (by rw [← hw]; rfl)
    have d3 := DD_dg (s := w) (i := 1 + 2) (p := n / 60 % 60 / 10) (q := n / 60 % 60 % 10) (by omega) (by omega) (by rw [← hw]; rfl) (by rw [← hw]; rfl)
    have s1 := step_rp (s := w) (x := 0) (u := 3600) (i := 1) (by omega) (by omega) (by omega) (by omega)
    rw [if_pos ⟨by omega, isD_dg (p := n / 3600 / 10) (by omega) (by rw [← hw]; rfl), isD_dg (p := n / 3600 % 10) (by omega) (by rw [← hw]; rfl)⟩, d1] at s1
    have s2 := step_rp (s := w) (x := 0 + (10 * (n / 3600 / 10) + n / 3600 % 10) * 3600) (u := 3600 / 60) (i := 1 + 2) (by omega) (by omega) (by omega) (by omega)
    rw [if_pos ⟨by omega, isD_dg (p := n / 60 % 60 / 10) (by omega) (by rw [← hw]; rfl), isD_dg (p := n / 60 % 60 % 10) (by omega) (by rw [← hw]; rfl)⟩, d3] at s2
    rw [iter_next s1, iter_next s2, iter_end (end_rp (.inl (by omega)) (by omega))]
    congr 2; omega
  · rw [e]
    generalize hw : [c, dg (n / 3600 / 10), dg (n / 3600 % 10), dg (n / 60 % 60 / 10), dg (n / 60 % 60 % 10), dg (n % 60 / 10), dg (n % 60 % 10)] = w
    have hwl : w.length = 7 := by rw [← hw]; rfl
    have d1 := DD_dg (s := w) (i := 1) (p := n / 3600 / 10) (q := n / 3600 % 10) (by omega) (by omega) (by rw [← hw]; rfl) (by rw [← hw]; rfl)
    have d3 := DD_dg (s := w) (i := 1 + 2) (p := n / 60 % 60 / 10) (q := n / 60 % 60 % 10) (by omega) (by omega) (by rw [← hw]; rfl) (by rw [← hw]; rfl)
    have d5 := DD_dg (s := w) (i := 1 + 2 + 2) (p := n % 60 / 10) (q := n % 60 % 10) (by omega) (by omega) (by rw [← hw]; rfl) (by rw [← hw]; rfl)
    have s1 := step_rp (s := w) (x := 0) (u := 3600) (i := 1) (by omega) (by omega) (by omega) (by omega)
    rw [if_pos ⟨by omega, isD_dg (p := n / 3600 / 10) (by omega) (by rw [← hw]; rfl), isD_dg (p := n / 3600 % 10) (by omega) (by rw [← hw]; rfl)⟩, d1] at s1
    have s2 := step_rp (s := w) (x := 0 + (10 * (n / 3600 / 10) + n / 3600 % 10) * 3600) (u := 3600 / 60) (i := 1 + 2) (by omega) (by omega) (by omega) (by omega)
    rw [if_pos ⟨by omega, isD_dg (p := n / 60 % 60 / 10) (by omega) (by rw [← hw]; rfl), isD_dg (p := n / 60 % 60 % 10) (by omega) (by rw [← hw]; rfl)⟩, d3] at s2
    have s3 := step_rp (s := w) (x := 0 + (10 * (n / 3600 / 10) + n / 3600 % 10) * 3600 + (10 * (n / 60 % 60 / 10) + n / 60 % 60 % 10) * (3600 / 60)) (u := 3600 / 60 / 60) (i := 1 + 2 + 2) (by omega) (by omega) (by omega) (by omega)
    rw [if_pos ⟨by omega, isD_dg (p := n % 60 / 10) (by omega) (by rw [← hw]; rfl), isD_dg (p := n % 60 % 10) (by omega) (by rw [← hw]; rfl)⟩, d5] at s3
    rw [iter_next s1, iter_next s2, iter_next s3, iter_end (end_rp (.inl (by omega)) (by omega))]
    congr 2; omega
theorem rparse_NT {x : Int} (h : -86399 ≤ x ∧ x ≤ 86399) : F_ref20_Parse [.s (NT x)] = some [.i x, .i 0] := by
  have hb := (NT_back h).2
  have key : F_ref20_Parse [.s (NT x)] = some (rfin (NT x) (val (NT x))) := by
    by_cases h0 : x < 0
    · obtain ⟨n, rfl⟩ : ∃ n, x = -n := ⟨-x, by omega⟩
      rw [NT_neg (by omega)]; exact rparse_NB (by omega) 45
    · rw [NT_pos (by omega)]; exact rparse_NB (by omega) 43
  rw [key]
  unfold rfin fin
  rw [if_neg (NT_ne h), hb, if_pos rfl]
end Go.Proofs.Ytnfgmffcnmifkaa
