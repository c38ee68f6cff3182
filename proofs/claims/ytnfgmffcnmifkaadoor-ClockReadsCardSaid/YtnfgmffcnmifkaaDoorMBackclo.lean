/-
  Amounts of time: strings are read back.
-/
import Derived.Test.YtnfgmffcnmifkaaDoorMParseclo
namespace Go.Proofs.YtnfgmffcnmifkaaDoor
open Go.Ax Go.Lib
set_option linter.all false
set_option maxHeartbeats 2000000
attribute [local congr] cond_cong bind_cong onI_cong onB_cong onS_cong onN_cong onL_cong

def ptail2 (v w : Int) : List UInt8 → Option (Int × Int × Int)
  | [] => some (v, w, 0)
  | x :: t => if x.toNat ≠ 58 then none else
    if ¬ ((t.takeWhile isD).length = 2 ∧ dval 0 (t.takeWhile isD) ≤ 59) then none
    else if t.length = 2 then some (v, w, dval 0 (t.takeWhile isD)) else none
def ptail (v : Int) : List UInt8 → Option (Int × Int × Int)
  | [] => some (v, 0, 0)
  | x :: t => if x.toNat ≠ 58 then none else
    if ¬ ((t.takeWhile isD).length = 2 ∧ dval 0 (t.takeWhile isD) ≤ 59) then none
    else ptail2 v (dval 0 (t.takeWhile isD)) (t.drop 2)
def badH (s r : List UInt8) : Prop := r.length < 1 ∨ 3 < r.length ∨ (1 < r.length ∧ (s.getD 0 0).toNat = 48)
instance (s r : List UInt8) : Decidable (badH s r) := by unfold badH; infer_instance
theorem getD_drop {s : List UInt8} {n : Nat} {x : UInt8} {t : List UInt8} (h : s.drop n = x :: t) : s.getD n 0 = x ∧ n < s.length ∧ s.drop (n + 1) = t := by
  have hlt : n < s.length := by
    rcases Nat.lt_or_ge n s.length with q | q
    · exact q
    · rw [List.drop_eq_nil_of_le q] at h; cases h
  rw [List.drop_eq_getElem_cons hlt] at h
  cases h
  exact ⟨by simp [List.getD, hlt], hlt, rfl⟩
theorem ptail2_at {s : List UInt8} {n : Nat} {v w : Int} (hn : n ≤ s.length) : (if n = s.length then some (v, w, 0)
    else if (s.getD n 0).toNat ≠ 58 then none
    else if ¬ (((s.drop (n + 1)).takeWhile isD).length = 2 ∧ dval 0 ((s.drop (n + 1)).takeWhile isD) ≤ 59) then none
      else if n + 3 = s.length then some (v, w, dval 0 ((s.drop (n + 1)).takeWhile isD)) else none) = ptail2 v w (s.drop n) := by
  cases hd : s.drop n with
  | nil =>
    have : s.length ≤ n := by simpa using hd
    rw [if_pos (by omega)]; rfl
  | cons x t =>
    obtain ⟨h1, h2, h3⟩ := getD_drop hd
    have hl : t.length = s.length - (n + 1) := by rw [← h3, List.length_drop]
    rw [if_neg (by omega), h1, h3]
    unfold ptail2
    dsimp only
    by_cases h : n + 3 = s.length
    · rw [if_pos h, if_pos (show t.length = 2 by omega)]
    · rw [if_neg h, if_neg (show ¬ t.length = 2 by omega)]
theorem psplit_eq (s : List UInt8) : psplit s = if badH s (s.takeWhile isD) then none else ptail (dval 0 (s.takeWhile isD)) (s.drop (s.takeWhile isD).length) := by
  unfold psplit
  dsimp only
  by_cases hb : badH s (s.takeWhile isD)
  · rw [if_pos hb]; exact if_pos hb
  · rw [if_neg hb]
    have hb' := hb
    unfold badH at hb'
    rw [if_neg hb']
    have hl := takeWhile_len s
    generalize s.takeWhile isD = r at *
    cases hd : s.drop r.length with
    | nil =>
      have : s.length ≤ r.length := by simpa using hd
      rw [if_pos (by omega)]; rfl
    | cons x t =>
      obtain ⟨h1, h2, h3⟩ := getD_drop hd
      rw [if_neg (by omega), h1, h3]
      unfold ptail
      dsimp only
      by_cases h58 : x.toNat ≠ 58
      · rw [if_pos h58, if_pos h58]
      · rw [if_neg h58, if_neg h58]
        by_cases h2' : ¬ ((t.takeWhile isD).length = 2 ∧ dval 0 (t.takeWhile isD) ≤ 59)
        · rw [if_pos h2', if_pos h2']
        · rw [if_neg h2', if_neg h2']
          have hl2 := takeWhile_len t
          have hl3 : t.length = s.length - (r.length + 1) := by rw [← h3, List.length_drop]
          have := ptail2_at (s := s) (n := r.length + 3) (v := dval 0 r) (w := dval 0 (t.takeWhile isD)) (by omega)
          rw [show r.length + 3 + 1 = r.length + 4 by omega, show r.length + 3 + 3 = r.length + 6 by omega] at this
          rw [this, ← h3, List.drop_drop]
theorem takeWhile_app {p : UInt8 → Bool} : ∀ {a t : List UInt8}, (∀ c ∈ a, p c = true) → (∀ x, t.head? = some x → p x = false) → (a ++ t).takeWhile p = a
  | [], [], _, _ => rfl
  | [], x :: t, _, h => by simp [h x rfl]
  | c :: a, t, ha, h => by
    simp [ha c (by simp), takeWhile_app (a := a) (t := t) (fun c hc => ha c (by simp [hc])) h]
theorem psplit_app {a t : List UInt8} (ha : ∀ c ∈ a, isD c = true) (ht : ∀ x, t.head? = some x → isD x = false) : psplit (a ++ t) = if badH (a ++ t) a then none else ptail (dval 0 a) t := by
  rw [psplit_eq, takeWhile_app ha ht]; simp
/-- A digit. -/
def Dg (n : Nat) : UInt8 := UInt8.ofNat (48 + n)
theorem Dg_nat {n : Nat} (h : n < 10) : (Dg n).toNat = 48 + n := by
  unfold Dg; simp; omega
theorem Dg_isD {n : Nat} (h : n < 10) : isD (Dg n) = true := isD_iff.2 (by rw [Dg_nat h]; omega)
theorem Dg_dig {n : Nat} (h : n < 10) : dig (Dg n) = n := by unfold dig; rw [Dg_nat h]; omega
theorem twoD_eq (n : Nat) : twoD n = [Dg (n / 10), Dg (n % 10)] := rfl
theorem dec3 {h : Nat} (hh : h < 1000) : decDigits h = if h < 10 then [Dg h] else if h < 100 then [Dg (h / 10), Dg (h % 10)] else [Dg (h / 100), Dg (h / 10 % 10), Dg (h % 10)] := by
  by_cases h1 : h < 10
  · rw [if_pos h1, decDigits_one h1]; rfl
  · rw [if_neg h1]
    by_cases h2 : h < 100
    · rw [if_pos h2, decDigits, dif_neg h1, decDigits_one (by omega)]; rfl
    · rw [if_neg h2, decDigits, dif_neg h1, decDigits, dif_neg (by omega), decDigits_one (by omega), Nat.div_div_eq_div_mul]; rfl
theorem dval_two {n : Nat} (h : n < 60) : dval 0 (twoD n) = n := by
  rw [twoD_eq]
  unfold dval dval dval dstep
  rw [Dg_dig (by omega), Dg_dig (by omega)]
  simp; split <;> omega
theorem dec_digits {h : Nat} (hh : h < 1000) : ∀ c ∈ decDigits h, isD c = true := by
  rw [dec3 hh]
  intro c hc
  split at hc
  · simp at hc; subst hc; exact Dg_isD (by omega)
  · split at hc
    · simp at hc; rcases hc with rfl | rfl <;> exact Dg_isD (by omega)
    · simp at hc; rcases hc with rfl | rfl | rfl <;> exact Dg_isD (by omega)
theorem dval_dec {h : Nat} (hh : h < 1000) : dval 0 (decDigits h) = h := by
  rw [dec3 hh]
  split
  · unfold dval dval dstep
    rw [Dg_dig (by omega)]; simp; omega
  · split
    · unfold dval dval dval dstep
      rw [Dg_dig (by omega), Dg_dig (by omega)]; simp; split <;> omega
    · unfold dval dval dval dval dstep
      rw [Dg_dig (by omega), Dg_dig (by omega), Dg_dig (by omega)]; simp; split <;> split <;> split <;> omega
theorem dec_len3 {h : Nat} (hh : h < 1000) : 1 ≤ (decDigits h).length ∧ (decDigits h).length ≤ 3 := ⟨dec_pos h, dec_len 2 h hh⟩
theorem dec_good {h : Nat} (hh : h < 1000) (t : List UInt8) : ¬ badH (decDigits h ++ t) (decDigits h) := by
  have := dec_len3 hh
  unfold badH
  rintro (q | q | ⟨q, r⟩)
  · omega
  · omega
  · rw [dec3 hh] at q r
    by_cases h1 : h < 10
    · rw [if_pos h1] at q; simp at q
    · rw [if_neg h1] at q r
      by_cases h2 : h < 100
      · rw [if_pos h2] at r
        have : (Dg (h / 10)).toNat = 48 := r
        rw [Dg_nat (by omega)] at this; omega
      · rw [if_neg h2] at r
        have : (Dg (h / 100)).toNat = 48 := r
        rw [Dg_nat (by omega)] at this; omega
theorem not58 : isD 58 = false := rfl
theorem colon_end (t : List UInt8) : ∀ x, (58 :: t).head? = some x → isD x = false := by
  intro x h; simp at h; subst h; rfl
theorem two_digits {n : Nat} (h : n < 60) : ∀ c ∈ twoD n, isD c = true := by
  rw [twoD_eq]; intro c hc; simp at hc; rcases hc with rfl | rfl <;> exact Dg_isD (by omega)
/-- Hours alone; with minutes; with seconds. -/
theorem psplit_h {h : Nat} (hh : h < 1000) : psplit (decDigits h) = some ((h : Int), 0, 0) := by
  have := psplit_app (t := []) (dec_digits hh) (by simp)
  rw [List.append_nil, dval_dec hh] at this
  have hg := dec_good hh []
  rw [List.append_nil] at hg
  rw [this, if_neg hg]; rfl
theorem ptail_two {v : Int} {m : Nat} {t : List UInt8} (hm : m < 60) (ht : ∀ x, t.head? = some x → isD x = false) : ptail v (58 :: (twoD m ++ t)) = ptail2 v m t := by
  unfold ptail
  dsimp only
  rw [if_neg (by decide), takeWhile_app (two_digits hm) ht, dval_two hm, if_neg (by simp [twoD]; omega)]
  rfl
theorem psplit_hmt {h m : Nat} (hh : h < 1000) (hm : m < 60) {t : List UInt8} (ht : ∀ x, t.head? = some x → isD x = false) : psplit (decDigits h ++ 58 :: (twoD m ++ t)) = ptail2 (h : Int) m t := by
  rw [psplit_app (dec_digits hh) (colon_end _), if_neg (dec_good hh _), dval_dec hh, ptail_two hm ht]
theorem psplit_hm {h m : Nat} (hh : h < 1000) (hm : m < 60) : psplit (decDigits h ++ 58 :: twoD m) = some ((h : Int), (m : Int), 0) := by
  have := psplit_hmt hh hm (t := []) (by simp)
  rw [List.append_nil] at this
  exact this
theorem psplit_hms {h m s : Nat} (hh : h < 1000) (hm : m < 60) (hs : s < 60) : psplit (decDigits h ++ 58 :: (twoD m ++ 58 :: twoD s)) = some ((h : Int), (m : Int), (s : Int)) := by
  rw [psplit_hmt hh hm (colon_end _)]
  unfold ptail2
  dsimp only
  have := takeWhile_app (p := isD) (a := twoD s) (t := []) (two_digits hs) (by simp)
  rw [List.append_nil] at this
  rw [if_neg (by decide), this, dval_two hs, if_neg (by simp [twoD]; omega), if_pos (by simp [twoD])]
theorem prN_eq (x : Nat) : prN x = decDigits (x / 3600) ++ 58 :: (twoD (x / 60 % 60) ++ if x % 60 = 0 then [] else 58 :: twoD (x % 60)) := by
  unfold prN; simp
theorem psplit_prN {x : Nat} (hx : x ≤ 604799) : psplit (prN x) = some (((x / 3600 : Nat) : Int), ((x / 60 % 60 : Nat) : Int), ((x % 60 : Nat) : Int)) := by
  rw [prN_eq]
  by_cases hz : x % 60 = 0
  · rw [if_pos hz, List.append_nil, psplit_hm (by omega) (by omega), hz]; rfl
  · rw [if_neg hz, psplit_hms (by omega) (by omega) (by omega)]
theorem prN_head (x : Nat) (hx : x ≤ 604799) : ¬ (0 < (prN x).length ∧ ((prN x).getD 0 0).toNat = 45) := by
  rintro ⟨_, h⟩
  rw [prN_eq] at h
  have hd := dec_digits (h := x / 3600) (by omega)
  have hl := dec_pos (x / 3600)
  cases hc : decDigits (x / 3600) with
  | nil => rw [hc] at hl; simp at hl
  | cons c r =>
    rw [hc] at h hd
    have := isD_iff.1 (hd c (by simp))
    have h : c.toNat = 45 := h
    omega
theorem pparse_prN {x : Nat} (hx : x ≤ 604799) : pparse (prN x) = ((x : Int), 0) := by
  unfold pparse
  rw [if_neg (prN_head x hx), psplit_prN hx]
  unfold psum pres
  dsimp only
  rw [if_neg (by simp), if_neg (by omega)]
  simp; omega
theorem pparse_neg {x : Nat} (hx : x ≤ 604799) (h0 : 0 < x) : pparse (45 :: prN x) = (-(x : Int), 0) := by
  unfold pparse
  rw [if_pos ⟨by simp, rfl⟩, show (45 :: prN x).drop 1 = prN x from rfl, psplit_prN hx]
  unfold psum pres
  dsimp only
  rw [if_pos rfl, if_neg (by omega), if_neg (by omega)]
  simp; omega
theorem pparse_pr {x : Int} (h0 : -604799 ≤ x) (h1 : x ≤ 604799) : pparse (pr x) = (x, 0) := by
  unfold pr
  by_cases h : x < 0
  · rw [if_pos h, pparse_neg (by omega) (by omega)]
    simp; omega
  · rw [if_neg h, pparse_prN (by omega)]
    simp; omega
theorem prN_len (x : Nat) (hx : x ≤ 604799) : 4 ≤ (prN x).length ∧ (prN x).length ≤ 9 := by
  have := dec_len3 (h := x / 3600) (by omega)
  rw [prN_eq]
  split <;> simp [twoD] <;> omega
theorem pr_len {x : Int} (h0 : -604799 ≤ x) (h1 : x ≤ 604799) : 4 ≤ (pr x).length ∧ (pr x).length ≤ 10 := by
  unfold pr
  split
  · have := prN_len x.natAbs (by omega)
    simp; omega
  · have := prN_len x.toNat (by omega)
    omega
end Go.Proofs.YtnfgmffcnmifkaaDoor
