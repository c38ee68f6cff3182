/-
  Times of day: letters; what is refused.
-/
import Derived.Test.YtnfgmffcnmifkaaDoorMClockclo
namespace Go.Proofs.YtnfgmffcnmifkaaDoor
open Go.Ax Go.Lib
set_option linter.all false
set_option maxHeartbeats 8000000
attribute [local congr] cond_cong bind_cong onI_cong onB_cong onS_cong onN_cong onL_cong

theorem dec_head {h : Nat} (hh : h < 1000) (t : List UInt8) : ¬ (0 < (decDigits h ++ t).length ∧ ((decDigits h ++ t).getD 0 0).toNat = 45) := by
  rintro ⟨_, e⟩
  have hd := dec_digits hh
  have hl := dec_pos h
  cases hc : decDigits h with
  | nil => rw [hc] at hl; simp at hl
  | cons c r =>
    rw [hc] at e hd
    have := isD_iff.1 (hd c (by simp))
    have e : c.toNat = 45 := e
    omega
theorem psplit_behind {y : Nat} {c : UInt8} (hy : y ≤ 604799) (h : isD c = false) : psplit (prN y ++ [c]) = none := by
  have e : prN y ++ [c] = decDigits (y / 3600) ++ 58 :: (twoD (y / 60 % 60) ++ ((if y % 60 = 0 then [] else 58 :: twoD (y % 60)) ++ [c])) := by rw [prN_eq]; simp
  rw [e]
  by_cases hz : y % 60 = 0
  · rw [if_pos hz, List.nil_append, psplit_hmt (by omega) (by omega) (by intro x hx; simp at hx; subst hx; exact h)]
    unfold ptail2
    dsimp only
    have : ([] : List UInt8).takeWhile isD = [] := rfl
    rw [this]
    split
    · rfl
    · rw [if_pos (by simp)]
  · rw [if_neg hz, List.cons_append, psplit_hmt (by omega) (by omega) (colon_end _)]
    unfold ptail2
    dsimp only
    have := takeWhile_app (p := isD) (a := twoD (y % 60)) (t := [c]) (two_digits (by omega)) (by intro x hx; simp at hx; subst hx; exact h)
    rw [if_neg (by decide), this, dval_two (by omega), if_neg (by simp [twoD]; omega), if_neg (by simp [twoD])]
theorem pparse_behind' {x : Int} {c : UInt8} (h0 : -604799 ≤ x) (h1 : x ≤ 604799) (h : isD c = false) : pparse (pr x ++ [c]) = (0, 5) := by
  unfold pr
  by_cases hx : x < 0
  · rw [if_pos hx]
    unfold pparse
    rw [if_pos ⟨by simp, rfl⟩, show (45 :: prN x.natAbs ++ [c]).drop 1 = prN x.natAbs ++ [c] from rfl, psplit_behind (by omega) h]; rfl
  · rw [if_neg hx]
    unfold pparse
    rw [if_neg, psplit_behind (by omega) h]; rfl
    rw [prN_eq, List.append_assoc]
    exact dec_head (by omega) _
theorem letter_nodigit {c : UInt8} (h : isLetter ((c.toNat : Nat) : Int) = true) : isD c = false := by
  unfold isLetter at h
  have h := of_decide_eq_true h
  cases hd : isD c with
  | false => rfl
  | true => have := isD_iff.1 hd; omega
theorem reads_at {s : List UInt8} {x b : Int} (hl : s.length ≤ 1000) (h : cparse s = [.i x, .i b, .i 0]) : F_law06_reads [.s s, .i x, .i b] = some [.b true] := by
  have p := cparse_at (s := s) (by omega)
  rw [h] at p
  have q5 : (decide (x = x) && (decide (b = b) && true)) = true := by simp
  unfold F_law06_reads
  simp (disch := omega) only [onI_c, onS_c, onB_c, Option.bind_some, cond_true, cond_false, ↓onI_c, ↓onS_c, ↓onB_c, ↓Option.bind_some, ↓cond_true, ↓cond_false, decide_eq_true, decT, p, ↓q5]
theorem fails_at {s : List UInt8} {e : Int} (hl : s.length ≤ 1000) (h : cparse s = [.i 0, .i 0, .i e]) : F_law06_fails [.s s, .i e] = some [.b true] := by
  have p := cparse_at (s := s) (by omega)
  rw [h] at p
  unfold F_law06_fails
  simp (disch := omega) only [onI_c, onS_c, onB_c, onN_c, onL_c, Option.bind_some, Option.map_some, cond_true, cond_false, ↓onI_c, ↓onS_c, ↓onB_c, ↓onN_c, ↓onL_c, ↓Option.bind_some, ↓cond_true, ↓cond_false, decide_eq_true, decide_eq_false, Bool.not_true, Bool.not_false, Int.toNat_natCast, List.length_append, List.length_cons, List.length_nil, List.drop_zero, Nat.zero_add, Nat.add_zero, decT, decF, bneI_t, bneI_f, p, and_tt]
theorem lett_at {x : Int} (h0 : -604799 ≤ x) (h1 : x ≤ 604799) (c : UInt8) (b : Int) (h : isLetter ((c.toNat : Nat) : Int) = true) (hb : letterBase ((c.toNat : Nat) : Int) = b) :
    F_law06_reads [.s (pr x ++ [c]), .i x, .i b] = some [.b true] ∧ F_law06_fails [.s ((pr x ++ [c]) ++ [c]), .i 5] = some [.b true] := by
  have hl := pr_len h0 h1
  have hp := pparse_pr h0 h1
  constructor
  · refine reads_at (by simp; omega) ?_
    rw [cparse_letter _ h, hp, hb]; rfl
  · refine fails_at (by simp; omega) ?_
    rw [cparse_letter _ h, pparse_behind' h0 h1 (letter_nodigit h)]; rfl
theorem lawP_ClockLetters {dats : List Dat} (h : DatOk tau [.int .i32, .int .u8] dats) : F_law06_ClockLetters dats = some [.b true] := by
  obtain ⟨m, r, rfl, hm, c, r, rfl, hc, rfl⟩ := h
  have hm := wf_i32 hm
  have hc := wf_u8 hc
  unfold F_law06_ClockLetters
  have e1 : i64 m = m := i64_in _ (by omega)
  have b1 := Int.tmod_lt_of_pos m (b := 604800) (by omega)
  have b2 := Int.lt_tmod_of_pos m (b := 604800) (by omega)
  simp only [onI_c, e1]
  generalize Int.tmod m 604800 = x at *
  have p := print_at (x := x) (by omega) (by omega)
  have hl := pr_len (x := x) (by omega) (by omega)
  have r0 : F_law06_reads [.s (pr x), .i x, .i 0] = some [.b true] := by
    refine reads_at (by omega) ?_
    have := cparse_cprint (x := x) (b := 0) (by unfold Cok; omega)
    rwa [show suf 0 = [] from rfl, List.append_nil] at this
  obtain ⟨r1, f1⟩ := lett_at (x := x) (by omega) (by omega) 119 0 rfl rfl
  obtain ⟨r2, f2⟩ := lett_at (x := x) (by omega) (by omega) 115 1 rfl rfl
  obtain ⟨r3, f3⟩ := lett_at (x := x) (by omega) (by omega) 117 2 rfl rfl
  obtain ⟨r4, f4⟩ := lett_at (x := x) (by omega) (by omega) 103 2 rfl rfl
  obtain ⟨r5, f5⟩ := lett_at (x := x) (by omega) (by omega) 122 2 rfl rfl
  have l1 : ∀ d : UInt8, (pr x ++ [d]).length = (pr x).length + 1 := fun d => by simp
  have hb : bytesOf [(Ax.AV.int .u8 (Ax.I.sym c))] = some [UInt8.ofNat c.toNat] := rfl
  have hcn : ((UInt8.ofNat c.toNat).toNat : Int) = c := by rw [UInt8.toNat_ofNat_of_lt' (by show c.toNat < 256; omega)]; omega
  have ll : ([UInt8.ofNat c.toNat] : List UInt8).length = 1 := rfl
  have fin : ∃ a b e, F_clock_Parse [.s (pr x ++ [UInt8.ofNat c.toNat])] = some [.i a, .i b, .i e] ∧ (c ≠ 119 → c ≠ 115 → c ≠ 117 → c ≠ 103 → c ≠ 122 → (48 ≤ c ∧ c ≤ 57) ∨ e = 5) := by
    have q := cparse_at (s := pr x ++ [UInt8.ofNat c.toNat]) (by simp; omega)
    by_cases hlt : isLetter c = true
    · obtain ⟨a, b, e, h⟩ := cparse_s (pr x ++ [UInt8.ofNat c.toNat])
      rw [h] at q
      refine ⟨a, b, e, q, fun n1 n2 n3 n4 n5 => ?_⟩
      unfold isLetter at hlt
      have := of_decide_eq_true hlt
      omega
    · have hlf : isLetter (((UInt8.ofNat c.toNat).toNat : Nat) : Int) = false := by rw [hcn]; simpa using hlt
      rw [cparse_other _ hlf] at q
      cases hd : isD (UInt8.ofNat c.toNat) with
      | true =>
        obtain ⟨a, b, e, h⟩ := cres_s (pparse (pr x ++ [UInt8.ofNat c.toNat])) 0
        rw [h] at q
        have := isD_iff.1 hd
        exact ⟨a, b, e, q, fun _ _ _ _ _ => .inl (by omega)⟩
      | false =>
        rw [pparse_behind' (by omega) (by omega) hd] at q
        exact ⟨0, 0, 5, q, fun _ _ _ _ _ => .inr rfl⟩
  obtain ⟨a, b, e, q, hq⟩ := fin
  have L1 : decide ((pr x).length + 1 ≤ 9223372036854775807) = true := decide_eq_true (by omega)
  have L2 : decide ((pr x).length + 1 + 1 ≤ 9223372036854775807) = true := decide_eq_true (by omega)
  clear hcn b1 b2 e1 hm hl
  generalize UInt8.ofNat c.toNat = d at *
  generalize pr x = s at *
  by_cases n1 : c = 119
  · have d1 : decide (c = 119) = true := decide_eq_true n1
    clear hq n1
    simp only [onI_c, onS_c, onB_c, Option.bind_some, cond_true, cond_false, ↓onI_c, ↓onS_c, ↓onB_c, ↓Option.bind_some, ↓cond_true, ↓cond_false, Bool.not_true, Bool.not_false, decT, decF, p, r0, r1, f1, l1, L1, L2, d1, cworks_at]
  have d1 : decide (c = 119) = false := decide_eq_false n1
  by_cases n2 : c = 115
  · have d2 : decide (c = 115) = true := decide_eq_true n2
    clear hq n1 n2
    simp only [onI_c, onS_c, onB_c, Option.bind_some, cond_true, cond_false, ↓onI_c, ↓onS_c, ↓onB_c, ↓Option.bind_some, ↓cond_true, ↓cond_false, Bool.not_true, Bool.not_false, decT, decF, p, r0, r1, f1, r2, f2, l1, L1, L2, d1, d2, cworks_at]
  have d2 : decide (c = 115) = false := decide_eq_false n2
  by_cases n3 : c = 117
  · have d3 : decide (c = 117) = true := decide_eq_true n3
    clear hq n1 n2 n3
    simp only [onI_c, onS_c, onB_c, Option.bind_some, cond_true, cond_false, ↓onI_c, ↓onS_c, ↓onB_c, ↓Option.bind_some, ↓cond_true, ↓cond_false, Bool.not_true, Bool.not_false, decT, decF, p, r0, r1, f1, r2, f2, r3, f3, l1, L1, L2, d1, d2, d3, cworks_at]
  have d3 : decide (c = 117) = false := decide_eq_false n3
  by_cases n4 : c = 103
  · have d4 : decide (c = 103) = true := decide_eq_true n4
    clear hq n1 n2 n3 n4
    simp only [onI_c, onS_c, onB_c, Option.bind_some, cond_true, cond_false, ↓onI_c, ↓onS_c, ↓onB_c, ↓Option.bind_some, ↓cond_true, ↓cond_false, Bool.not_true, Bool.not_false, decT, decF, p, r0, r1, f1, r2, f2, r3, f3, r4, f4, l1, L1, L2, d1, d2, d3, d4, cworks_at]
  have d4 : decide (c = 103) = false := decide_eq_false n4
  by_cases n5 : c = 122
  · have d5 : decide (c = 122) = true := decide_eq_true n5
    clear hq n1 n2 n3 n4 n5
    simp only [onI_c, onS_c, onB_c, Option.bind_some, cond_true, cond_false, ↓onI_c, ↓onS_c, ↓onB_c, ↓Option.bind_some, ↓cond_true, ↓cond_false, Bool.not_true, Bool.not_false, decT, decF, p, r0, r1, f1, r2, f2, r3, f3, r4, f4, r5, f5, l1, L1, L2, d1, d2, d3, d4, d5, cworks_at]
  have d5 : decide (c = 122) = false := decide_eq_false n5
  have hq := hq n1 n2 n3 n4 n5
  by_cases he : e = 0
  · have hd : 48 ≤ c ∧ c ≤ 57 := by omega
    have g1 : decide (48 ≤ c) = true := decide_eq_true hd.1
    have g2 : decide (c ≤ 57) = true := decide_eq_true hd.2
    have g3 : decide (e = 0) = true := decide_eq_true he
    clear hq n1 n2 n3 n4 n5 hd he
    simp only [onI_c, onS_c, onB_c, Option.bind_some, cond_true, cond_false, ↓onI_c, ↓onS_c, ↓onB_c, ↓Option.bind_some, ↓cond_true, ↓cond_false, Bool.not_true, Bool.not_false, decT, decF, p, r0, r1, f1, r2, f2, r3, f3, r4, f4, r5, f5, l1, L1, L2, d1, d2, d3, d4, d5, hb, ll, q, g1, g2, g3, cworks_at]
  · have g3 : decide (e = 0) = false := decide_eq_false he
    clear hq n1 n2 n3 n4 n5 he
    simp only [onI_c, onS_c, onB_c, Option.bind_some, cond_true, cond_false, ↓onI_c, ↓onS_c, ↓onB_c, ↓Option.bind_some, ↓cond_true, ↓cond_false, Bool.not_true, Bool.not_false, decT, decF, p, r0, r1, f1, r2, f2, r3, f3, r4, f4, r5, f5, l1, L1, L2, d1, d2, d3, d4, d5, hb, ll, q, g3, cworks_at]
end Go.Proofs.YtnfgmffcnmifkaaDoor
