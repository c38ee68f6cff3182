/-
  Numeric abbreviations: what stands for %z: the law.
-/
import Derived.Test.YtnfgmffcnmifkaaMExpnum
import Derived.Test.YtnfgmffcnmifkaaMBackAnum
namespace Go.Proofs.Ytnfgmffcnmifkaa
open Go.Ax
set_option linter.all false
set_option maxHeartbeats 8000000
attribute [local congr] cond_cong bind_cong onI_cong onB_cong onS_cong onN_cong onL_cong

/-- What stands for %z. -/
def EX (off kind save : Int) (rs : List Rul) : List Dat :=
  if kind = 0 then J1 (NT off) else if kind = 1 then J1 (NT (off + save)) else if kind = 2 then
    (if (oth 0 rs).2 = true then J2 (NT off) (NT (off + (oth 0 rs).1)) else if sav rs = true then [.s [], .i 14] else J1 (NT off)) else [.s [], .i 2]
theorem J1_s (s : List UInt8) : ∃ a b, J1 s = [.s a, .i b] := by unfold J1; split <;> exact ⟨_, _, rfl⟩
theorem J2_s (s t : List UInt8) : ∃ a b, J2 s t = [.s a, .i b] := by unfold J2; split; exact ⟨_, _, rfl⟩; split <;> exact ⟨_, _, rfl⟩
theorem EX_s (off kind save : Int) (rs : List Rul) : ∃ a b, EX off kind save rs = [.s a, .i b] := by
  unfold EX
  by_cases h0 : kind = 0
  · rw [if_pos h0]; exact J1_s _
  rw [if_neg h0]
  by_cases h1 : kind = 1
  · rw [if_pos h1]; exact J1_s _
  rw [if_neg h1]
  by_cases h2 : kind = 2
  · rw [if_pos h2]
    by_cases h3 : (oth 0 rs).2 = true
    · rw [if_pos h3]; exact J2_s _ _
    · rw [if_neg h3]
      by_cases h4 : sav rs = true
      · rw [if_pos h4]; exact ⟨_, _, rfl⟩
      · rw [if_neg h4]; exact J1_s _
  · rw [if_neg h2]; exact ⟨_, _, rfl⟩
theorem oth_in {rs : List Rul} (h : ∀ r ∈ rs, In64 r.fSave) : ∀ {x : Int}, In64 x → In64 (oth x rs).1 := by
  induction rs with
  | nil => intro x hx; exact hx
  | cons r rs ih =>
    intro x hx
    unfold oth
    by_cases q : r.fSave = 0 ∨ r.fSave = x
    · rw [if_pos q]; exact ih (fun r' hr => h r' (List.mem_cons_of_mem _ hr)) hx
    · rw [if_neg q]
      by_cases hx0 : x ≠ 0
      · rw [if_pos hx0]; unfold In64; omega
      · rw [if_neg hx0]; exact ih (fun r' hr => h r' (List.mem_cons_of_mem _ hr)) (h r (List.mem_cons_self ..))
theorem exp_at {o k sv x3 x4 x5 x6 x7 x8 x9 : Int} {s1 s2 : List UInt8} {b : Bool} {c : List AV} {rs : List Rul} (hr : Rul.Rep c rs) (hl : rs.length ≤ 1000000) (hs : ∀ r ∈ rs, In64 r.fSave) (ho : In64 o) (hsv : In64 sv) :
    F_numeric_Expansion [.i o, .i k, .i sv, .s s1, .s s2, .b b, .i x3, .i x4, .i x5, .i x6, .i x7, .i x8, .i x9, .n rs.length, .l c] = some (EX o k sv rs) := by
  have t1 := text_at ho
  have m1 := sum_at ho hsv
  have hot := oth_in hs (x := 0) (by unfold In64; omega)
  have m2 := sum_at ho hot
  have q1 := other_at hr hl
  have q2 := saved_at hr hl
  have j1 := join1_at (NT_len o)
  have j2 := join1_at (NT_len (o + sv))
  have j3 := join2_at (NT_len o) (NT_len (o + (oth 0 rs).1))
  obtain ⟨a1, b1, u1⟩ := J1_s (NT o)
  obtain ⟨a2, b2, u2⟩ := J1_s (NT (o + sv))
  obtain ⟨a3, b3, u3⟩ := J2_s (NT o) (NT (o + (oth 0 rs).1))
  unfold F_numeric_Expansion EX
  rw [u1, u2, u3]
  rw [u1] at j1; rw [u2] at j2; rw [u3] at j3
  clear u1 u2 u3 hr hs hot ho hsv hl
  have l1 : ([(Ax.AV.str (Ax.S.sym (NT o)))] : List AV).length = 1 := rfl
  have l2 : ([(Ax.AV.str (Ax.S.sym (NT (o + sv))))] : List AV).length = 1 := rfl
  have l3 : ([(Ax.AV.str (Ax.S.sym (NT o))), (Ax.AV.str (Ax.S.sym (NT (o + (oth 0 rs).1))))] : List AV).length = 2 := rfl
  by_cases h0 : k = 0
  · simp (disch := omega) only [onI_c, onS_c, onB_c, onN_c, onL_c, Option.bind_some, Option.map_some, cond_true, cond_false, ↓onI_c, ↓onS_c, ↓onB_c, ↓onN_c, ↓onL_c, ↓Option.bind_some, ↓cond_true, ↓cond_false, decide_eq_true, decide_eq_false, Bool.not_true, Bool.not_false, Int.toNat_natCast, List.length_append, List.length_cons, List.length_nil, List.drop_zero, Nat.zero_add, Nat.add_zero, decT, decF, bneI_t, bneI_f, h0, t1, l1, j1, if_true]
  · by_cases h1 : k = 1
    · simp (disch := omega) only [onI_c, onS_c, onB_c, onN_c, onL_c, Option.bind_some, Option.map_some, cond_true, cond_false, ↓onI_c, ↓onS_c, ↓onB_c, ↓onN_c, ↓onL_c, ↓Option.bind_some, ↓cond_true, ↓cond_false, decide_eq_true, decide_eq_false, Bool.not_true, Bool.not_false, Int.toNat_natCast, List.length_append, List.length_cons, List.length_nil, List.drop_zero, Nat.zero_add, Nat.add_zero, decT, decF, bneI_t, bneI_f, h0, h1, m1, l2, j2, if_true, if_false, Int.reduceEq]
    · by_cases h2 : k = 2
      · cases hb : (oth 0 rs).2 with
        | true =>
          rw [hb] at q1
          simp (disch := omega) only [onI_c, onS_c, onB_c, onN_c, onL_c, Option.bind_some, Option.map_some, cond_true, cond_false, ↓onI_c, ↓onS_c, ↓onB_c, ↓onN_c, ↓onL_c, ↓Option.bind_some, ↓cond_true, ↓cond_false, decide_eq_true, decide_eq_false, Bool.not_true, Bool.not_false, Int.toNat_natCast, List.length_append, List.length_cons, List.length_nil, List.drop_zero, Nat.zero_add, Nat.add_zero, decT, decF, bneI_t, bneI_f, h0, h1, h2, t1, q1, m2, l3, j3, if_true, if_false, Int.reduceEq]
        | false =>
          rw [hb] at q1
          cases hsa : sav rs with
          | true =>
            rw [hsa] at q2
            simp (disch := omega) only [onI_c, onS_c, onB_c, onN_c, onL_c, Option.bind_some, Option.map_some, cond_true, cond_false, ↓onI_c, ↓onS_c, ↓onB_c, ↓onN_c, ↓onL_c, ↓Option.bind_some, ↓cond_true, ↓cond_false, decide_eq_true, decide_eq_false, Bool.not_true, Bool.not_false, Int.toNat_natCast, List.length_append, List.length_cons, List.length_nil, List.drop_zero, Nat.zero_add, Nat.add_zero, decT, decF, bneI_t, bneI_f, h0, h1, h2, t1, q1, q2, if_true, if_false, Int.reduceEq, Bool.false_eq_true]
          | false =>
            rw [hsa] at q2
            simp (disch := omega) only [onI_c, onS_c, onB_c, onN_c, onL_c, Option.bind_some, Option.map_some, cond_true, cond_false, ↓onI_c, ↓onS_c, ↓onB_c, ↓onN_c, ↓onL_c, ↓Option.bind_some, ↓cond_true, ↓cond_false, decide_eq_true, decide_eq_false, Bool.not_true, Bool.not_false, Int.toNat_natCast, List.length_append, List.length_cons, List.length_nil, List.drop_zero, Nat.zero_add, Nat.add_zero, decT, decF, bneI_t, bneI_f, h0, h1, h2, t1, q1, q2, l1, j1, if_true, if_false, Int.reduceEq, Bool.false_eq_true]
      · simp (disch := omega) only [onI_c, onS_c, onB_c, onN_c, onL_c, Option.bind_some, Option.map_some, cond_true, cond_false, ↓onI_c, ↓onS_c, ↓onB_c, ↓onN_c, ↓onL_c, ↓Option.bind_some, ↓cond_true, ↓cond_false, decide_eq_true, decide_eq_false, Bool.not_true, Bool.not_false, Int.toNat_natCast, List.length_append, List.length_cons, List.length_nil, List.drop_zero, Nat.zero_add, Nat.add_zero, decT, decF, bneI_t, bneI_f, h0, h1, h2, if_true, if_false]
/-- The document's: what is behind the rules. -/
def RX (first : List UInt8) (o x : Int) (is : Bool) : List Dat := if is = true then J2 first (NT (o + x)) else J1 first
theorem rexp_loop0 {f : List UInt8} {x : Int} {is : Bool} {o k sv x3 x4 x5 x6 x7 x8 x9 : Int} {s1 s2 : List UInt8} {b : Bool} {c : List AV} {rs : List Rul} (hr : Rul.Rep c rs) (hl : rs.length ≤ 1000000) (ho : In64 o) (hx : In64 x) (hf : f.length ≤ 7) :
    ∀ (t : List Rul) (i : Nat), rs.drop i = t →
    iter F_ref20_Expansion_L1 [.n rs.length, .l c, .s f, .i x, .b is, .i (i : Int), .i o, .i k, .i sv, .s s1, .s s2, .b b, .i x3, .i x4, .i x5, .i x6, .i x7, .i x8, .i x9] = some (if is = false ∧ sav t = true then [.s [], .i 14] else RX f o x is) := by
  intro t
  have m := rsum_at ho hx
  have hn := NT_len (o + x)
  induction t with
  | nil =>
    intro i h
    have := drop_nilE h
    refine iter_end ?_
    clear hr
    have hz : ¬ (is = false ∧ sav [] = true) := fun q => by cases q.2
    rw [if_neg hz]
    unfold F_ref20_Expansion_L1 RX J1 J2
    generalize NT (o + x) = w at *
    by_cases hf0 : f = []
    · cases is <;> simp (disch := omega) only [onI_c, onS_c, onB_c, onN_c, onL_c, Option.bind_some, Option.map_some, cond_true, cond_false, ↓onI_c, ↓onS_c, ↓onB_c, ↓onN_c, ↓onL_c, ↓Option.bind_some, ↓cond_true, ↓cond_false, decide_eq_true, decide_eq_false, Bool.not_true, Bool.not_false, Int.toNat_natCast, List.length_append, List.length_cons, List.length_nil, List.drop_zero, Nat.zero_add, Nat.add_zero, decT, decF, bneI_t, bneI_f, m, hf0, beq_self_eq_true, if_true, if_false, Bool.false_eq_true]
    · have hq := beq_f hf0
      cases is with
      | false => simp (disch := omega) only [onI_c, onS_c, onB_c, onN_c, onL_c, Option.bind_some, Option.map_some, cond_true, cond_false, ↓onI_c, ↓onS_c, ↓onB_c, ↓onN_c, ↓onL_c, ↓Option.bind_some, ↓cond_true, ↓cond_false, decide_eq_true, decide_eq_false, Bool.not_true, Bool.not_false, Int.toNat_natCast, List.length_append, List.length_cons, List.length_nil, List.drop_zero, Nat.zero_add, Nat.add_zero, decT, decF, bneI_t, bneI_f, m, hf0, hq, if_true, if_false, Bool.false_eq_true]
      | true =>
        by_cases hw : w = []
        · simp (disch := omega) only [onI_c, onS_c, onB_c, onN_c, onL_c, Option.bind_some, Option.map_some, cond_true, cond_false, ↓onI_c, ↓onS_c, ↓onB_c, ↓onN_c, ↓onL_c, ↓Option.bind_some, ↓cond_true, ↓cond_false, decide_eq_true, decide_eq_false, Bool.not_true, Bool.not_false, Int.toNat_natCast, List.length_append, List.length_cons, List.length_nil, List.drop_zero, Nat.zero_add, Nat.add_zero, decT, decF, bneI_t, bneI_f, m, hf0, hq, hw, beq_self_eq_true, if_true, if_false, Bool.false_eq_true]
        · have hq2 := beq_f hw
          simp (disch := omega) only [onI_c, onS_c, onB_c, onN_c, onL_c, Option.bind_some, Option.map_some, cond_true, cond_false, ↓onI_c, ↓onS_c, ↓onB_c, ↓onN_c, ↓onL_c, ↓Option.bind_some, ↓cond_true, ↓cond_false, decide_eq_true, decide_eq_false, Bool.not_true, Bool.not_false, Int.toNat_natCast, List.length_append, List.length_cons, List.length_nil, List.drop_zero, Nat.zero_add, Nat.add_zero, decT, decF, bneI_t, bneI_f, m, hf0, hq, hw, hq2, if_true, if_false, Bool.false_eq_true, List.append_assoc, List.cons_append, List.nil_append]
  | cons r t ih =>
    intro i h
    obtain ⟨h1, h2, h3⟩ := drop_getE h
    obtain ⟨r0, r1, r2, r3, r4, r5, r6, r7, r8, r9, r10⟩ := hr.at_ i r h1
    have e1 : i64 ((i : Int) + 1) = ((i + 1 : Nat) : Int) := by rw [i64_in _ (by omega)]; omega
    clear hr h1 h r0 r1 r2 r3 r4 r5 r6 r7 r8 r10 m hn hf hx ho
    have ih := ih (i + 1) h2
    by_cases q : r.fSave = 0
    · have : sav (r :: t) = sav t := by unfold sav; rw [List.any_cons, decide_eq_false (by simpa using q)]; rfl
      rw [this, ← ih]
      refine iter_next ?_
      clear ih h2
      unfold F_ref20_Expansion_L1
      simp (disch := omega) only [onI_c, onS_c, onB_c, onN_c, onL_c, Option.bind_some, Option.map_some, cond_true, cond_false, ↓onI_c, ↓onS_c, ↓onB_c, ↓onN_c, ↓onL_c, ↓Option.bind_some, ↓cond_true, ↓cond_false, decide_eq_true, decide_eq_false, Bool.not_true, Bool.not_false, Int.toNat_natCast, List.length_append, List.length_cons, List.length_nil, List.drop_zero, Nat.zero_add, Nat.add_zero, decT, decF, bneI_t, bneI_f, r9, e1, q]
    · have : sav (r :: t) = true := by unfold sav; rw [List.any_cons, decide_eq_true q]; rfl
      rw [this]
      cases is with
      | true =>
        have n1 : ¬ (true = false ∧ true = true) := fun q => by cases q.1
        have n2 : ¬ (true = false ∧ sav t = true) := fun q => by cases q.1
        rw [if_neg n1]
        rw [if_neg n2] at ih
        rw [← ih]
        refine iter_next ?_
        clear ih h2
        unfold F_ref20_Expansion_L1
        simp (disch := omega) only [onI_c, onS_c, onB_c, onN_c, onL_c, Option.bind_some, Option.map_some, cond_true, cond_false, ↓onI_c, ↓onS_c, ↓onB_c, ↓onN_c, ↓onL_c, ↓Option.bind_some, ↓cond_true, ↓cond_false, decide_eq_true, decide_eq_false, Bool.not_true, Bool.not_false, Int.toNat_natCast, List.length_append, List.length_cons, List.length_nil, List.drop_zero, Nat.zero_add, Nat.add_zero, decT, decF, bneI_t, bneI_f, r9, e1, q]
      | false =>
        rw [if_pos ⟨rfl, rfl⟩]
        refine iter_end ?_
        clear ih h2
        unfold F_ref20_Expansion_L1
        simp (disch := omega) only [onI_c, onS_c, onB_c, onN_c, onL_c, Option.bind_some, Option.map_some, cond_true, cond_false, ↓onI_c, ↓onS_c, ↓onB_c, ↓onN_c, ↓onL_c, ↓Option.bind_some, ↓cond_true, ↓cond_false, decide_eq_true, decide_eq_false, Bool.not_true, Bool.not_false, Int.toNat_natCast, List.length_append, List.length_cons, List.length_nil, List.drop_zero, Nat.zero_add, Nat.add_zero, decT, decF, bneI_t, bneI_f, r9, e1, q]
theorem oth_sav {rs : List Rul} : (oth 0 rs).2 = false → sav rs = false → (oth 0 rs).1 = 0 := by
  induction rs with
  | nil => intro _ _; rfl
  | cons r rs ih =>
    intro h1 h2
    unfold sav at h2
    rw [List.any_cons, Bool.or_eq_false_iff] at h2
    have : r.fSave = 0 := by have := of_decide_eq_false h2.1; omega
    unfold oth at h1 ⊢
    rw [if_pos (.inl this)] at h1 ⊢
    exact ih h1 h2.2
theorem rexp_at {o k sv x3 x4 x5 x6 x7 x8 x9 : Int} {s1 s2 : List UInt8} {b : Bool} {c : List AV} {rs : List Rul} (hr : Rul.Rep c rs) (hl : rs.length ≤ 1000000) (hs : ∀ r ∈ rs, In64 r.fSave) (ho : In64 o) (hsv : In64 sv) :
    F_ref20_Expansion [.i o, .i k, .i sv, .s s1, .s s2, .b b, .i x3, .i x4, .i x5, .i x6, .i x7, .i x8, .i x9, .n rs.length, .l c] = some (EX o k sv rs) := by
  have t1 := rtext_at ho
  have m1 := rsum_at ho hsv
  have hot := oth_in hs (x := 0) (by unfold In64; omega)
  have q1 := rother_at hr hl
  have lp := rexp_loop0 (f := NT o) (x := (oth 0 rs).1) (is := (oth 0 rs).2) (k := k) (sv := sv) (x3 := x3) (x4 := x4) (x5 := x5) (x6 := x6) (x7 := x7) (x8 := x8) (x9 := x9) (s1 := s1) (s2 := s2) (b := b) hr hl ho hot (NT_len o) rs 0 (by rw [List.drop_zero])
  unfold F_ref20_Expansion EX
  clear hr hs hot ho hsv hl
  by_cases hk : k < 0 ∨ 2 < k
  · rw [if_neg (by omega), if_neg (by omega), if_neg (by omega)]
    by_cases hk0 : k < 0
    · simp (disch := omega) only [onI_c, onS_c, onB_c, onN_c, onL_c, Option.bind_some, Option.map_some, cond_true, cond_false, ↓onI_c, ↓onS_c, ↓onB_c, ↓onN_c, ↓onL_c, ↓Option.bind_some, ↓cond_true, ↓cond_false, decide_eq_true, decide_eq_false, Bool.not_true, Bool.not_false, Int.toNat_natCast, List.length_append, List.length_cons, List.length_nil, List.drop_zero, Nat.zero_add, Nat.add_zero, decT, decF, bneI_t, bneI_f]
    · simp (disch := omega) only [onI_c, onS_c, onB_c, onN_c, onL_c, Option.bind_some, Option.map_some, cond_true, cond_false, ↓onI_c, ↓onS_c, ↓onB_c, ↓onN_c, ↓onL_c, ↓Option.bind_some, ↓cond_true, ↓cond_false, decide_eq_true, decide_eq_false, Bool.not_true, Bool.not_false, Int.toNat_natCast, List.length_append, List.length_cons, List.length_nil, List.drop_zero, Nat.zero_add, Nat.add_zero, decT, decF, bneI_t, bneI_f]
  by_cases h0 : k = 0
  · rw [if_pos h0]
    unfold J1
    by_cases hn : NT o = []
    · simp (disch := omega) only [onI_c, onS_c, onB_c, onN_c, onL_c, Option.bind_some, Option.map_some, cond_true, cond_false, ↓onI_c, ↓onS_c, ↓onB_c, ↓onN_c, ↓onL_c, ↓Option.bind_some, ↓cond_true, ↓cond_false, decide_eq_true, decide_eq_false, Bool.not_true, Bool.not_false, Int.toNat_natCast, List.length_append, List.length_cons, List.length_nil, List.drop_zero, Nat.zero_add, Nat.add_zero, decT, decF, bneI_t, bneI_f, t1, hn, h0, beq_self_eq_true, if_true]
    · have hq := beq_f hn
      simp (disch := omega) only [onI_c, onS_c, onB_c, onN_c, onL_c, Option.bind_some, Option.map_some, cond_true, cond_false, ↓onI_c, ↓onS_c, ↓onB_c, ↓onN_c, ↓onL_c, ↓Option.bind_some, ↓cond_true, ↓cond_false, decide_eq_true, decide_eq_false, Bool.not_true, Bool.not_false, Int.toNat_natCast, List.length_append, List.length_cons, List.length_nil, List.drop_zero, Nat.zero_add, Nat.add_zero, decT, decF, bneI_t, bneI_f, t1, hn, hq, h0, if_false]
  · rw [if_neg h0]
    by_cases h1 : k = 1
    · rw [if_pos h1]
      unfold J1
      by_cases hn : NT (o + sv) = []
      · simp (disch := omega) only [onI_c, onS_c, onB_c, onN_c, onL_c, Option.bind_some, Option.map_some, cond_true, cond_false, ↓onI_c, ↓onS_c, ↓onB_c, ↓onN_c, ↓onL_c, ↓Option.bind_some, ↓cond_true, ↓cond_false, decide_eq_true, decide_eq_false, Bool.not_true, Bool.not_false, Int.toNat_natCast, List.length_append, List.length_cons, List.length_nil, List.drop_zero, Nat.zero_add, Nat.add_zero, decT, decF, bneI_t, bneI_f, t1, m1, hn, h1, beq_self_eq_true, if_true, Int.reduceEq]
      · have hq := beq_f hn
        simp (disch := omega) only [onI_c, onS_c, onB_c, onN_c, onL_c, Option.bind_some, Option.map_some, cond_true, cond_false, ↓onI_c, ↓onS_c, ↓onB_c, ↓onN_c, ↓onL_c, ↓Option.bind_some, ↓cond_true, ↓cond_false, decide_eq_true, decide_eq_false, Bool.not_true, Bool.not_false, Int.toNat_natCast, List.length_append, List.length_cons, List.length_nil, List.drop_zero, Nat.zero_add, Nat.add_zero, decT, decF, bneI_t, bneI_f, t1, m1, hn, hq, h1, if_false, Int.reduceEq]
    · rw [if_neg h1, if_pos (by omega)]
      have h2 : k = 2 := by omega
      have e0 : (0 : Int) = ((0 : Nat) : Int) := rfl
      have lp' : iter F_ref20_Expansion_L1 [.n rs.length, .l c, .s (NT o), .i (oth 0 rs).1, .b (oth 0 rs).2, .i 0, .i o, .i k, .i sv, .s s1, .s s2, .b b, .i x3, .i x4, .i x5, .i x6, .i x7, .i x8, .i x9] = _ := lp
      clear lp
      simp (disch := omega) only [onI_c, onS_c, onB_c, onN_c, onL_c, Option.bind_some, Option.map_some, cond_true, cond_false, ↓onI_c, ↓onS_c, ↓onB_c, ↓onN_c, ↓onL_c, ↓Option.bind_some, ↓cond_true, ↓cond_false, decide_eq_true, decide_eq_false, Bool.not_true, Bool.not_false, Int.toNat_natCast, List.length_append, List.length_cons, List.length_nil, List.drop_zero, Nat.zero_add, Nat.add_zero, decT, decF, bneI_t, bneI_f, t1, q1, lp']
      unfold RX
      cases h3 : (oth 0 rs).2 with
      | true => rfl
      | false =>
        cases h4 : sav rs with
        | true => rfl
        | false => rfl
theorem wf_save {rs : List Rul} (h : ∀ r ∈ rs, r.wf) : ∀ r ∈ rs, In64 r.fSave := by
  intro r hr
  obtain ⟨_, _, _, _, _, _, _, _, _, h9, _⟩ := h r hr
  exact wf_i64 h9
theorem lawP_NumericExpands {e : Nat} (he : tks tau 12 e = some [.string, .int .i64, .int .i64, .int .i64, .int .i64, .int .i64, .int .i64, .int .i64, .int .i64, .int .i64, .string]) {dats : List Dat}
    (h : DatOk tau [.int .i64, .int .i64, .int .i64, .string, .string, .bool, .int .i64, .int .i64, .int .i64, .int .i64, .int .i64, .int .i64, .int .i64, .slice e] dats) : F_law20_NumericExpands dats = some [.b true] := by
  obtain ⟨o, r, rfl, ho, k, r, rfl, hk, sv, r, rfl, hsv, s1, r, rfl, _, s2, r, rfl, _, b, r, rfl, x3, r, rfl, _, x4, r, rfl, _, x5, r, rfl, _, x6, r, rfl, _, x7, r, rfl, _, x8, r, rfl, _, x9, r, rfl, _, n, c, r, rfl, hc, rfl⟩ := h
  obtain ⟨rs, rfl, hl, hr, hwf⟩ := Rul.of_cells he hc
  clear hc he
  have ho := wf_i64 ho
  have hsv := wf_i64 hsv
  have hs := wf_save hwf
  clear hwf
  unfold F_law20_NumericExpands
  by_cases hlen : 40 < rs.length
  · simp (disch := omega) only [onI_c, onS_c, onB_c, onN_c, onL_c, Option.bind_some, Option.map_some, cond_true, cond_false, ↓onI_c, ↓onS_c, ↓onB_c, ↓onN_c, ↓onL_c, ↓Option.bind_some, ↓cond_true, ↓cond_false, decide_eq_true, decide_eq_false, Bool.not_true, Bool.not_false, Int.toNat_natCast, List.length_append, List.length_cons, List.length_nil, List.drop_zero, Nat.zero_add, Nat.add_zero, decT, decF, bneI_t, bneI_f, works_at]
  · have p1 := exp_at (o := o) (k := k) (sv := sv) (x3 := x3) (x4 := x4) (x5 := x5) (x6 := x6) (x7 := x7) (x8 := x8) (x9 := x9) (s1 := s1) (s2 := s2) (b := b) hr (by omega) hs ho hsv
    have p2 := rexp_at (o := o) (k := k) (sv := sv) (x3 := x3) (x4 := x4) (x5 := x5) (x6 := x6) (x7 := x7) (x8 := x8) (x9 := x9) (s1 := s1) (s2 := s2) (b := b) hr (by omega) hs ho hsv
    obtain ⟨u, v, huv⟩ := EX_s o k sv rs
    rw [huv] at p1 p2
    clear huv hs hr
    simp (disch := omega) only [onI_c, onS_c, onB_c, onN_c, onL_c, Option.bind_some, Option.map_some, cond_true, cond_false, ↓onI_c, ↓onS_c, ↓onB_c, ↓onN_c, ↓onL_c, ↓Option.bind_some, ↓cond_true, ↓cond_false, decide_eq_true, decide_eq_false, Bool.not_true, Bool.not_false, Int.toNat_natCast, List.length_append, List.length_cons, List.length_nil, List.drop_zero, Nat.zero_add, Nat.add_zero, decT, decF, bneI_t, bneI_f, p1, p2, works_at, beq_self_eq_true]
end Go.Proofs.Ytnfgmffcnmifkaa
