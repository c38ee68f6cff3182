/-
  Fields and lines: the laws.
-/
import Derived.Test.YtgehedalhppehaaDoorMJonlex
namespace Go.Proofs.YtgehedalhppehaaDoor
open Go.Ax Go.Lib
set_option linter.all false
set_option maxHeartbeats 4000000
set_option maxRecDepth 100000
attribute [local congr] cond_cong bind_cong onI_cong onB_cong onS_cong onN_cong onL_cong

theorem cells_strings {τ : Tys} {e n : Nat} {c : List AV} (ht : tks τ 12 e = some [.string]) (h : CellOk τ (.slice e) (.seq (.sym n) c)) : ∃ xs, strsOf c = some xs ∧ n = xs.length := by
  cases h with
  | slice he hp hl hn h =>
    rw [ht] at he
    cases he
    have hl : c.length = n := by simpa using hl
    have key : ∀ (c : List AV), (∀ (i : Nat) (x : AV), c[i]? = some x → CellOk τ .string x) → ∃ xs, strsOf c = some xs := by
      intro c
      induction c with
      | nil => intro _; exact ⟨[], rfl⟩
      | cons x c ih =>
        intro hc
        obtain ⟨xs, hx⟩ := ih (fun i y q => hc (i + 1) y q)
        have h0 := hc 0 x rfl
        cases h0 with | str hs =>
        exact ⟨_ :: xs, by rw [strsOf_cons, hx]; rfl⟩
    obtain ⟨xs, hx⟩ := key c (fun i x q => h i x .string q (by simp [Nat.mod_one]))
    exact ⟨xs, hx, by rw [strsOf_len hx, hl]⟩

theorem lexemeFields (line : List UInt8) {xs : List (List UInt8)} {l : List AV} (h : strsOf l = some xs) : F_law05_LexemeFields [.s line, .n xs.length, .l l] = some [.b true] := by
  have hw : F_law05_works [] = some [.b true] := rfl
  unfold F_law05_LexemeFields
  by_cases h1 : 1000 < line.length
  · simp (disch := omega) only [onI_c, onS_c, onB_c, onN_c, onL_c, Option.bind_some, Option.map_some, cond_true, cond_false, ↓onI_c, ↓onS_c, ↓onB_c, ↓onN_c, ↓onL_c, ↓Option.bind_some, ↓cond_true, ↓cond_false, decide_eq_true, decide_eq_false, Bool.not_true, Bool.not_false, Int.toNat_natCast, List.length_append, List.length_cons, List.length_nil, List.drop_zero, Nat.zero_add, Nat.add_zero, decT, decF, bneI_t, bneI_f, hw]
  by_cases h2 : 50 < xs.length
  · simp (disch := omega) only [onI_c, onS_c, onB_c, onN_c, onL_c, Option.bind_some, Option.map_some, cond_true, cond_false, ↓onI_c, ↓onS_c, ↓onB_c, ↓onN_c, ↓onL_c, ↓Option.bind_some, ↓cond_true, ↓cond_false, decide_eq_true, decide_eq_false, Bool.not_true, Bool.not_false, Int.toNat_natCast, List.length_append, List.length_cons, List.length_nil, List.drop_zero, Nat.zero_add, Nat.add_zero, decT, decF, bneI_t, bneI_f, hw]
  obtain ⟨a, a1, a2⟩ := fields_at line (by omega)
  obtain ⟨b, b1, b2⟩ := refFields_at line
  have hfl := fieldsV_len line
  have ab := equal_at a2 b2 rfl rfl (by omega)
  rw [decide_eq_true rfl] at ab
  have main : (∀ x ∈ xs, x.length ≤ 400) → Option.bind (F_lexeme_Join [.n xs.length, .l l]) (fun r => some r) = some [.s (joinV xs).1, .i (joinV xs).2] ∧ F_ref05_Join [.n xs.length, .l l] = some [.s (joinV xs).1, .i (joinV xs).2] := by
    intro hx
    have hx2 : ∀ x ∈ xs, x.length ≤ 2000 := fun x q => Nat.le_trans (hx x q) (by omega)
    exact ⟨by rw [join_at h (by omega) hx2 rfl]; rfl, refJoin_at h (by omega) hx2 rfl⟩
  have run : ∀ (m i : Nat), i + m = xs.length → (∀ x ∈ xs.take i, x.length ≤ 400) → iter (F_law05_LexemeFields_L0 line xs.length l) [.n xs.length, .l l, .i ((xs.length : Nat) : Int), .i ((i : Nat) : Int)] = some [.b true] := by
    intro m
    induction m with
    | zero =>
      intro i hi ht
      rw [List.take_of_length_le (by omega)] at ht
      obtain ⟨j1, j2⟩ := main ht
      have j1 : F_lexeme_Join [.n xs.length, .l l] = some [.s (joinV xs).1, .i (joinV xs).2] := by
        cases q : F_lexeme_Join [.n xs.length, .l l] with
        | none => rw [q] at j1; cases j1
        | some r => rw [q] at j1; exact j1
      have hs : ((joinV xs).1 == (joinV xs).1) = true := beq_self_eq_true _
      refine iter_end ?_
      unfold F_law05_LexemeFields_L0
      clear h main a2 b2 ht
      generalize joinV xs = v at *
      generalize fieldsV line = u at *
      simp (disch := omega) only [onI_c, onS_c, onB_c, onN_c, onL_c, Option.bind_some, Option.map_some, cond_true, cond_false, ↓onI_c, ↓onS_c, ↓onB_c, ↓onN_c, ↓onL_c, ↓Option.bind_some, ↓cond_true, ↓cond_false, decide_eq_true, decide_eq_false, Bool.not_true, Bool.not_false, Int.toNat_natCast, List.length_append, List.length_cons, List.length_nil, List.drop_zero, Nat.zero_add, Nat.add_zero, decT, decF, bneI_t, bneI_f, a1, b1, ab, j1, j2, hs, hw]
    | succ m ih =>
      intro i hi ht
      have hlt : i < xs.length := by omega
      have g1 := strsOf_get h hlt
      have g4 : i64 ((i : Int) + 1) = ((i + 1 : Nat) : Int) := by rw [i64_in _ (by omega)]; omega
      by_cases hx : 400 < (xs.getD i []).length
      · refine iter_end ?_
        unfold F_law05_LexemeFields_L0
        clear h main a2 b2 ht ih
        simp (disch := omega) only [onI_c, onS_c, onB_c, onN_c, onL_c, Option.bind_some, Option.map_some, cond_true, cond_false, ↓onI_c, ↓onS_c, ↓onB_c, ↓onN_c, ↓onL_c, ↓Option.bind_some, ↓cond_true, ↓cond_false, decide_eq_true, decide_eq_false, Bool.not_true, Bool.not_false, Int.toNat_natCast, List.length_append, List.length_cons, List.length_nil, List.drop_zero, Nat.zero_add, Nat.add_zero, decT, decF, bneI_t, bneI_f, g1, hw]
      · rw [iter_next (y := [.n xs.length, .l l, .i ((xs.length : Nat) : Int), .i ((i + 1 : Nat) : Int)]), ih (i + 1) (by omega) (by
          intro x q
          rw [List.take_succ] at q
          rcases List.mem_append.1 q with q | q
          · exact ht x q
          · simp [hlt] at q
            rw [q]
            have : xs.getD i [] = xs[i] := by simp [List.getD, hlt]
            rw [← this]; omega)]
        unfold F_law05_LexemeFields_L0
        clear h main a2 b2 ht ih
        simp (disch := omega) only [onI_c, onS_c, onB_c, onN_c, onL_c, Option.bind_some, Option.map_some, cond_true, cond_false, ↓onI_c, ↓onS_c, ↓onB_c, ↓onN_c, ↓onL_c, ↓Option.bind_some, ↓cond_true, ↓cond_false, decide_eq_true, decide_eq_false, Bool.not_true, Bool.not_false, Int.toNat_natCast, List.length_append, List.length_cons, List.length_nil, List.drop_zero, Nat.zero_add, Nat.add_zero, decT, decF, bneI_t, bneI_f, g1, g4]
  have k0 := run xs.length 0 (by omega) (by simp)
  simp (disch := omega) only [onI_c, onS_c, onB_c, onN_c, onL_c, Option.bind_some, Option.map_some, cond_true, cond_false, ↓onI_c, ↓onS_c, ↓onB_c, ↓onN_c, ↓onL_c, ↓Option.bind_some, ↓cond_true, ↓cond_false, decide_eq_true, decide_eq_false, Bool.not_true, Bool.not_false, Int.toNat_natCast, List.length_append, List.length_cons, List.length_nil, List.drop_zero, Nat.zero_add, Nat.add_zero, decT, decF, bneI_t, bneI_f]
  exact k0
theorem lawP_LexemeFields {dats : List Dat} (h : DatOk tau [.string, .slice 9] dats) : F_law05_LexemeFields dats = some [.b true] := by
  obtain ⟨line, r, rfl, hs, n, c, r2, rfl, hc, rfl⟩ := h
  obtain ⟨xs, hx, rfl⟩ := cells_strings (by kernel_rfl) hc
  exact lexemeFields line hx

/-! What is read of lines that were made. -/
theorem fs_bare : ∀ {x : List UInt8} {out f r}, wrB x = true → (x.all fun c => decide (c.toNat ≠ 32 ∧ c.toNat ≠ 35)) = true → fs false true out f (x ++ r) = fs false true out (f ++ x) r
  | [], out, f, r, h, k => by simp
  | c :: x, out, f, r, h, k => by
    unfold wrB at h
    rw [List.all_cons, Bool.and_eq_true] at h k
    have h1 := of_decide_eq_true h.1
    have k1 := of_decide_eq_true k.1
    rw [List.cons_append, fs_byte ⟨h1.1, h1.2.1⟩ h1.2.2 (.inr k1), fs_bare h.2 k.2]
    simp
theorem fs_inq : ∀ {x : List UInt8} {out f r}, wrB x = true → fs true true out f (x ++ r) = fs true true out (f ++ x) r
  | [], out, f, r, h => by simp
  | c :: x, out, f, r, h => by
    unfold wrB at h
    rw [List.all_cons, Bool.and_eq_true] at h
    have h1 := of_decide_eq_true h.1
    rw [List.cons_append, fs_byte ⟨h1.1, h1.2.1⟩ h1.2.2 (.inl rfl), fs_inq h.2]
    simp
theorem fs_q {q bg out f t} : fs q bg out f (34 :: t) = fs (!q) true out f t := fs_quote rfl
theorem fs_item {x : List UInt8} {out r} (h : wrB x = true) : fs false false out [] (item x ++ r) = fs false true out x r := by
  unfold item
  cases hb : bareB x with
  | true =>
    rw [if_pos rfl]
    unfold bareB at hb
    rw [Bool.and_eq_true] at hb
    cases x with
    | nil => cases hb.1
    | cons c x =>
      rw [fs_begun (t := c :: x ++ r) (by
        have h0 : wrB (c :: x) = true := h
        unfold wrB at h0
        rw [List.all_cons, Bool.and_eq_true] at h0
        have h1 := of_decide_eq_true h0.1
        have k0 := hb.2
        rw [List.all_cons, Bool.and_eq_true] at k0
        have k1 := of_decide_eq_true k0.1
        exact fun q => q ⟨by omega, by omega, by omega⟩), fs_bare h hb.2]
      rfl
  | false =>
    rw [if_neg (by simp)]
    rw [show 34 :: x ++ [34] ++ r = 34 :: (x ++ 34 :: r) by simp, fs_q, show (!false) = true from rfl, fs_inq h, fs_q]
    rfl
def Ends (t : List UInt8) : Prop := (∀ out s, fs false true out s t = some (out ++ [s])) ∧ ∀ out, fs false false out [] t = some out
theorem fs_jn {t : List UInt8} (ht : Ends t) : ∀ {xs : List (List UInt8)} {out}, xs.all wrB = true → fs false false out [] (jn true xs ++ t) = some (out ++ xs)
  | [], out, h => by rw [jn, List.nil_append, ht.2, List.append_nil]
  | x :: xs, out, h => by
    rw [List.all_cons, Bool.and_eq_true] at h
    rw [jn, if_pos rfl, List.nil_append, List.append_assoc, fs_item h.1, jn_first]
    by_cases hx : xs = []
    · rw [if_pos hx, List.nil_append, ht.1, hx]
    · rw [if_neg hx, List.cons_append, fs_gap (.inr rfl)]
      show fs false false (out ++ [x]) [] _ = _
      rw [fs_jn ht h.2]
      simp
theorem ends_nil : Ends [] := ⟨fun out s => rfl, fun out => rfl⟩
theorem ends_hash (t : List UInt8) : Ends (35 :: t) := ⟨fun out s => fs_hash rfl, fun out => fs_hash rfl⟩
theorem ends_gap {t : List UInt8} (h : Ends t) : Ends (32 :: t) := ⟨fun out s => by rw [fs_gap (.inr rfl)]; exact h.2 _, fun out => by rw [fs_gap (.inr rfl)]; exact h.2 _⟩
theorem lead_gap {c : UInt8} {out t} (hc : c.toNat = 9 ∨ c.toNat = 32) : fs false false out [] (c :: t) = fs false false out [] t := by rw [fs_gap hc]; rfl
theorem fieldsV_of {s : List UInt8} {xs} (hl : s.length ≤ 300) (h : fs false false [] [] s = some xs) : fieldsV s = (xs, 0) := by
  rw [fieldsV_R, if_neg (by omega), h]; rfl
theorem jn_length : ∀ {xs : List (List UInt8)} {k : Nat} {f : Bool}, (∀ x ∈ xs, x.length ≤ k) → (jn f xs).length ≤ xs.length * (k + 3)
  | [], k, f, h => by simp [jn]
  | x :: xs, k, f, h => by
    rw [jn, List.length_append, List.length_append, List.length_cons, Nat.add_mul]
    have h1 := item_length x
    have h2 := h x (List.mem_cons_self ..)
    have h3 := jn_length (xs := xs) (k := k) (f := false) (fun y q => h y (List.mem_cons_of_mem _ q))
    have h4 : (if f = true then ([] : List UInt8) else [32]).length ≤ 1 := by split <;> simp
    omega

/-! Lines of the greatest length. -/
theorem rep_all {p : UInt8 → Bool} {c : UInt8} (h : p c = true) : ∀ n, (repeatL [c] n).all p = true
  | 0 => rfl
  | n + 1 => by rw [rep_cons, List.all_append, rep_all h n, Bool.and_true, List.all_cons, h]; rfl
theorem long_line (n : Nat) (hn : n ≤ 455) (h2 : 200 ≤ n) : ∃ s, strRepeat [.s [120], .i ((n : Nat) : Int)] = some [.s s] ∧ s.length = n ∧ wrB s = true ∧ bareB s = true ∧ (10 : UInt8) ∉ s := by
  refine ⟨repeatL [120] n, rep_in (by omega) (by simp; omega), by rw [repeatL_length]; simp, rep_all rfl n, ?_, rep_not (by simp) n⟩
  unfold bareB
  have h1 : (repeatL ([120] : List UInt8) n == []) = false := beq_f (fun e => by have := congrArg List.length e; rw [repeatL_length] at this; simp at this; omega)
  rw [h1, rep_all rfl n]; rfl
theorem lexemeLong (m ln : Int) (hm : 0 ≤ m ∧ m ≤ 255) (hk : 0 ≤ ln ∧ ln ≤ 255) : F_law05_LexemeLong [.i m, .i ln] = some [.b true] := by
  have hw : F_law05_works [] = some [.b true] := rfl
  obtain ⟨n, hn⟩ : ∃ n : Nat, 200 + m = (n : Int) := ⟨(200 + m).toNat, by omega⟩
  have hn2 : n ≤ 455 := by omega
  have hn3 : 200 ≤ n := by omega
  have e0 : i64 m = m := i64_in _ (by omega)
  have e1 : i64 (200 + m) = ((n : Nat) : Int) := by rw [i64_in _ (by omega), hn]
  obtain ⟨s, s1, s2, s3, s4, s5⟩ := long_line n hn2 hn3
  obtain ⟨k, hk1⟩ : ∃ k : Nat, ln % 20 = (k : Int) := ⟨(ln % 20).toNat, by omega⟩
  have hk2 : k < 20 := by omega
  have e2 : i64 (Int.tmod ln 20) = ((k : Nat) : Int) := by rw [tmod_nn hk.1, hk1, i64_in _ (by omega)]
  have r2 : strRepeat [.s [97, 10], .i ((k : Nat) : Int)] = some [.s (repeatL [97, 10] k)] := rep_in (by omega) (by simp; omega)
  have rl : (repeatL ([97, 10] : List UInt8) k).length = k * 2 := by rw [repeatL_length]; simp
  obtain ⟨fl1, f1, f2⟩ := fields_at s (by omega)
  have hjs : strsOf [AV.str (.sym s)] = some [s] := rfl
  have j1 := join_at hjs (by simp) (by simp; omega) (n := 1) rfl
  obtain ⟨ll, l1, l2⟩ := lines_at (s := (repeatL [97, 10] k ++ s) ++ [10, 98]) (by simp; omega)
  have hlv : linesV ((repeatL [97, 10] k ++ s) ++ [10, 98]) = fin [] (List.replicate k [97] ++ [s, [98]]) := by
    unfold linesV
    rw [if_neg (by simp; omega)]
    have e3 : trimV ((repeatL [97, 10] k ++ s) ++ [10, 98]) = (repeatL [97, 10] k ++ s) ++ [10, 98] := by
      unfold trimV
      rw [if_neg (by simp)]
    rw [e3, List.append_assoc, show ([97, 10] : List UInt8) = [97] ++ [10] from rfl, spl_rep (by simp), show s ++ [10, 98] = s ++ 10 :: [98] from rfl, spl_app s5]
    rfl
  have hjn : jn true [s] = s := by simp [jn, item_b s4]
  have hjv : joinV [s] = if 300 < n then ([], 6) else (s, 0) := by
    unfold joinV
    rw [show ([s] : List (List UInt8)).all wrB = true by simp [s3], if_pos rfl, hjn, s2]
  have e5 : i64 (((k : Nat) : Int) + 1) = (k : Int) + 1 := i64_in _ (by omega)
  have e6 : i64 (((k : Nat) : Int) + 2) = (k : Int) + 2 := i64_in _ (by omega)
  unfold F_law05_LexemeLong
  have one : ([AV.str (.sym s)]).length = 1 := rfl
  by_cases h3 : 300 < n
  · have v1 : fieldsV s = ([], 6) := by rw [fieldsV_R, if_pos (by omega)]
    rw [if_pos h3] at hjv
    have v2 : fin [] (List.replicate k [97] ++ [s, [98]]) = ([], (k : Int) + 1, 6) := by
      unfold fin
      rw [lg_rep (by simp), lg, if_pos (by omega)]
      simp
    rw [v2] at hlv
    rw [hlv] at l1
    rw [v1] at f1
    rw [hjv] at j1
    dsimp only at l1 f1 j1
    have q0 : (([] : List UInt8) == []) = true := rfl
    clear hlv v2 v1 hjv hjn hjs f2 l2 s3 s4 s5
    simp (disch := omega) only [onI_c, onS_c, onB_c, onN_c, onL_c, Option.bind_some, Option.map_some, cond_true, cond_false, ↓onI_c, ↓onS_c, ↓onB_c, ↓onN_c, ↓onL_c, ↓Option.bind_some, ↓cond_true, ↓cond_false, decide_eq_true, decide_eq_false, Bool.not_true, Bool.not_false, Int.toNat_natCast, List.length_append, List.length_cons, List.length_nil, List.drop_zero, Nat.zero_add, Nat.add_zero, decT, decF, bneI_t, bneI_f, e0, e1, e2, e5, s1, one, f1, j1, r2, l1, q0, hw]
  · have v1 : fieldsV s = ([s], 0) := by
      refine fieldsV_of (by omega) ?_
      have := fs_jn ends_nil (xs := [s]) (out := []) (by simp [s3])
      rw [hjn, List.append_nil, List.nil_append] at this
      exact this
    rw [if_neg h3] at hjv
    have v2 : fin [] (List.replicate k [97] ++ [s, [98]]) = (List.replicate k [97] ++ [s, [98]], 0, 0) := by
      unfold fin
      rw [lg_rep (by simp), lg, if_neg (by omega), lg, if_neg (by simp), lg]
      rfl
    rw [v2] at hlv
    rw [hlv] at l1
    rw [v1] at f1
    rw [hjv] at j1
    dsimp only at l1 f1 j1
    have q0 : (s == s) = true := beq_self_eq_true _
    have e7 : (List.replicate k ([97] : List UInt8) ++ [s, [98]]).length = k + 2 := by simp
    rw [e7] at l1
    have e8 : ([s] : List (List UInt8)).length = 1 := rfl
    rw [e8] at f1
    clear hlv v2 v1 hjv hjn hjs f2 l2 s3 s4 s5 e7
    simp (disch := omega) only [onI_c, onS_c, onB_c, onN_c, onL_c, Option.bind_some, Option.map_some, cond_true, cond_false, ↓onI_c, ↓onS_c, ↓onB_c, ↓onN_c, ↓onL_c, ↓Option.bind_some, ↓cond_true, ↓cond_false, decide_eq_true, decide_eq_false, Bool.not_true, Bool.not_false, Int.toNat_natCast, List.length_append, List.length_cons, List.length_nil, List.drop_zero, Nat.zero_add, Nat.add_zero, decT, decF, bneI_t, bneI_f, e0, e1, e2, e6, s1, one, f1, j1, r2, l1, q0, hw]
theorem lawP_LexemeLong {dats : List Dat} (h : DatOk tau [.int .u8, .int .u8] dats) : F_law05_LexemeLong dats = some [.b true] := by
  obtain ⟨m, r, rfl, hm, k, r2, rfl, hk, rfl⟩ := h
  exact lexemeLong m k (wf_u8 hm) (wf_u8 hk)
end Go.Proofs.YtgehedalhppehaaDoor
