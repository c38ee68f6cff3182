/-
  UntilEnds: the law.
-/
import Derived.Test.YtcohbcdhcmajiaaDoorMUneune
import Derived.Test.YtcohbcdhcmajiaaDoorAxT
namespace Go.Proofs.YtcohbcdhcmajiaaDoor
open Go.Ax Go.Lib
set_option linter.all false
set_option maxHeartbeats 8000000
set_option maxRecDepth 100000
attribute [local congr] cond_cong bind_cong onI_cong onB_cong onS_cong onN_cong onL_cong
theorem ron_head {y m k w d : Int} (hy : -2000000000 ≤ y ∧ y ≤ 2000000000) (hm : 1 ≤ m ∧ m ≤ 12) (hG : Good k w d) :
    F_ref02_On [.i y, .i m, .i k, .i w, .i d] = bif decide (ln y m < d) then some [.i 0, .i 4] else (bif (decide (k = 1)) then (some [(.i (i64 ((i64 (dn y m 1 + d)) - 1))), (.i 0)]) else
       (bif (decide (k = 3)) then (iter F_ref02_On_L0 [(.i (i64 ((i64 (dn y m 1 + d)) - 1))), (.i k), (.i w), (.i d)]) else
        (bif (decide (k = 2)) then (iter F_ref02_On_L1 [(.i (i64 ((i64 (dn y m 1 + ln y m)) - 1))), (.i k), (.i w), (.i d)]) else
         (iter F_ref02_On_L2 [(.i (i64 ((i64 (dn y m 1 + d)) - 1))), (.i k), (.i w), (.i d)])))) := by
  have h1 : F_ref02_in [.i m, .i 1, .i 12] = some [.b true] := by rw [in_at, decide_eq_true hm.1, decide_eq_true hm.2]; rfl
  have d1 : decide (y < -2000000000) = false := decide_eq_false (by omega)
  have d2 : decide (2000000000 < y) = false := decide_eq_false (by omega)
  have t0 : (!decide ((0 : Int) = 0)) = false := rfl
  unfold F_ref02_On
  simp only [onI_c, h1, Option.bind_some, onB_c, Bool.not_true, cond_false, d1, d2, rcheck_good hG, rlen_at hm, rdays_at hy hm, decide_true]
theorem on_same {y m k w d : Int} (hy : -2000000000 ≤ y ∧ y ≤ 2000000000) : F_ref02_On [.i y, .i m, .i k, .i w, .i d] = F_dayform_On [.i y, .i m, .i k, .i w, .i d] := by
  by_cases hm : 1 ≤ m ∧ m ≤ 12
  · by_cases hg : ((k = 1 ∧ w = 0 ∧ 1 ≤ d ∧ d ≤ 31) ∨ (k = 2 ∧ 0 ≤ w ∧ w ≤ 6 ∧ d = 0) ∨ (k = 3 ∧ 0 ≤ w ∧ w ≤ 6 ∧ 1 ≤ d ∧ d ≤ 31) ∨ (k = 4 ∧ 0 ≤ w ∧ w ≤ 6 ∧ 1 ≤ d ∧ d ≤ 31))
    · rw [ron_head hy hm ⟨hg⟩]
      have hb := dn_bound (m := m) (d := 1) hy (by omega)
      have hl := ln_bound y m
      rcases hg with ⟨rfl, rfl, h1, h2⟩ | ⟨rfl, h1, h2, rfl⟩ | ⟨rfl, h1, h2, h3, h4⟩ | ⟨rfl, h1, h2, h3, h4⟩
      · rw [on_fixed hy hm ⟨h1, h2⟩]
        by_cases q : ln y m < d
        · rw [if_pos q, decide_eq_true q]; rfl
        · rw [if_neg q, decide_eq_false q, cond_false]
          have e1 : i64 (dn y m 1 + d) = dn y m 1 + d := i64_in _ (by omega)
          have e2 : i64 (dn y m 1 + d - 1) = dn y m 1 + d - 1 := i64_in _ (by omega)
          rw [e1, e2]; rfl
      · rw [on_last hy hm ⟨h1, h2⟩, decide_eq_false (show ¬ ln y m < 0 by omega), cond_false]
        have e1 : i64 (dn y m 1 + ln y m) = dn y m 1 + ln y m := i64_in _ (by omega)
        have e2 : i64 (dn y m 1 + ln y m - 1) = dn y m 1 + ln y m - 1 := i64_in _ (by omega)
        rw [e1, e2]
        have := down_run (k := 2) (w := w) (d := 0) ⟨h1, h2⟩ ((dn y m 1 + ln y m - 1 + 4 - w) % 7).toNat (dn y m 1 + ln y m - 1) (by omega) (by omega)
        rw [show (((dn y m 1 + ln y m - 1 + 4 - w) % 7).toNat : Int) = (dn y m 1 + ln y m - 1 + 4 - w) % 7 by omega] at this
        exact this
      · rw [on_from hy hm ⟨h1, h2⟩ ⟨h3, h4⟩]
        by_cases q : ln y m < d
        · rw [if_pos q, decide_eq_true q]; rfl
        · rw [if_neg q, decide_eq_false q, cond_false]
          have e1 : i64 (dn y m 1 + d) = dn y m 1 + d := i64_in _ (by omega)
          have e2 : i64 (dn y m 1 + d - 1) = dn y m 1 + d - 1 := i64_in _ (by omega)
          rw [e1, e2]
          have := up_run (k := 3) (w := w) (d := d) ⟨h1, h2⟩ ((w - 4 - (dn y m 1 + d - 1)) % 7).toNat (dn y m 1 + d - 1) (by omega) (by omega)
          refine Eq.trans this ?_
          congr 3
          omega
      · rw [on_to hy hm ⟨h1, h2⟩ ⟨h3, h4⟩]
        by_cases q : ln y m < d
        · rw [if_pos q, decide_eq_true q]; rfl
        · rw [if_neg q, decide_eq_false q, cond_false, L2_eq]
          have e1 : i64 (dn y m 1 + d) = dn y m 1 + d := i64_in _ (by omega)
          have e2 : i64 (dn y m 1 + d - 1) = dn y m 1 + d - 1 := i64_in _ (by omega)
          rw [e1, e2]
          have := down_run (k := 4) (w := w) (d := d) ⟨h1, h2⟩ ((dn y m 1 + d - 1 + 4 - w) % 7).toNat (dn y m 1 + d - 1) (by omega) (by omega)
          refine Eq.trans this ?_
          congr 3
          omega
    · rw [on_bad hy hm (bad_of hg)]
      have h1 : F_ref02_in [.i m, .i 1, .i 12] = some [.b true] := by rw [in_at, decide_eq_true hm.1, decide_eq_true hm.2]; rfl
      have d1 : decide (y < -2000000000) = false := decide_eq_false (by omega)
      have d2 : decide (2000000000 < y) = false := decide_eq_false (by omega)
      unfold F_ref02_On
      simp only [onI_c, h1, Option.bind_some, onB_c, Bool.not_true, cond_false, d1, d2, rcheck_bad hg]
      rfl
  · rw [on_range (days_month hy (by omega))]
    have h1 : F_ref02_in [.i m, .i 1, .i 12] = some [.b false] := by
      rw [in_at]
      have : (decide (1 ≤ m) && decide (m ≤ 12)) = false := by
        rw [Bool.and_eq_false_iff]
        by_cases p : 1 ≤ m
        · exact .inr (decide_eq_false (by omega))
        · exact .inl (decide_eq_false p)
      rw [this]
    unfold F_ref02_On
    simp only [onI_c, h1, Option.bind_some, onB_c, Bool.not_false, cond_true]
theorem on_total (y m k w d : Int) : ∃ v e, F_dayform_On [.i y, .i m, .i k, .i w, .i d] = some [.i v, .i e] ∧ -2000000000000 ≤ v ∧ v ≤ 2000000000000 := by
  by_cases hy : -2000000000 ≤ y ∧ y ≤ 2000000000
  · by_cases hm : 1 ≤ m ∧ m ≤ 12
    · by_cases hg : ((k = 1 ∧ w = 0 ∧ 1 ≤ d ∧ d ≤ 31) ∨ (k = 2 ∧ 0 ≤ w ∧ w ≤ 6 ∧ d = 0) ∨ (k = 3 ∧ 0 ≤ w ∧ w ≤ 6 ∧ 1 ≤ d ∧ d ≤ 31) ∨ (k = 4 ∧ 0 ≤ w ∧ w ≤ 6 ∧ 1 ≤ d ∧ d ≤ 31))
      · have hb := dn_bound (m := m) (d := 1) hy (by omega)
        have hl := ln_bound y m
        rcases hg with ⟨rfl, rfl, h1, h2⟩ | ⟨rfl, h1, h2, rfl⟩ | ⟨rfl, h1, h2, h3, h4⟩ | ⟨rfl, h1, h2, h3, h4⟩
        · rw [on_fixed hy hm ⟨h1, h2⟩]; split <;> exact ⟨_, _, rfl, by omega, by omega⟩
        · exact ⟨_, _, on_last hy hm ⟨h1, h2⟩, by omega, by omega⟩
        · rw [on_from hy hm ⟨h1, h2⟩ ⟨h3, h4⟩]; split <;> exact ⟨_, _, rfl, by omega, by omega⟩
        · rw [on_to hy hm ⟨h1, h2⟩ ⟨h3, h4⟩]; split <;> exact ⟨_, _, rfl, by omega, by omega⟩
      · exact ⟨_, _, on_bad hy hm (bad_of hg), by decide, by decide⟩
    · exact ⟨_, _, on_range (days_month hy (by omega)), by decide, by decide⟩
  · exact ⟨_, _, on_range (days_year (by omega)), by decide, by decide⟩
theorem clock_val (s b : Int) : F_clock_Check [.i s, .i b] = some [.i (if (-604799 ≤ s ∧ s ≤ 604799) ∧ (0 ≤ b ∧ b ≤ 2) then 0 else 2)] := by
  unfold F_clock_Check
  rw [onI_c, onI_c]
  by_cases h1 : s < -604799
  · rw [decide_eq_true h1, if_neg (by omega)]; rfl
  · rw [decide_eq_false h1]
    by_cases h2 : 604799 < s
    · rw [decide_eq_true h2, if_neg (by omega)]; rfl
    · rw [decide_eq_false h2]
      by_cases h3 : b < 0
      · rw [decide_eq_true h3, if_neg (by omega)]; rfl
      · rw [decide_eq_false h3]
        by_cases h4 : 2 < b
        · rw [decide_eq_true h4, if_neg (by omega)]; rfl
        · rw [decide_eq_false h4, if_pos (by omega)]; rfl
/-- The nominal time of an end that is right. -/
theorem nom_yes {y m k w d s b l v : Int} (hl : -10800 ≤ l ∧ l ≤ 0) (hOn : F_dayform_On [.i y, .i m, .i k, .i w, .i d] = some [.i v, .i 0]) (hy : 1850 ≤ y ∧ y ≤ 2149) (hb : 0 ≤ b ∧ b ≤ 2) (hv : -2000000000000 ≤ v ∧ v ≤ 2000000000000)
    (hs : (b = 1 ∧ -86400 ≤ s + l ∧ s + l ≤ 172800) ∨ (b ≠ 1 ∧ -86400 ≤ s ∧ s ≤ 172800)) : F_until_nominal [.b true, .i y, .i m, .i k, .i w, .i d, .i s, .i b, .i l] = some [.i (86400 * v + (if b = 1 then s + l else s)), .b true] := by
  have hc := clock_val s b
  rw [if_pos (by omega)] at hc
  have t0 : (!decide ((0 : Int) = 0)) = false := rfl
  have hn : F_number_Named [.i y] = some [.b true] := by rw [named_at, decide_eq_true hy.1, decide_eq_true hy.2]; rfl
  have e1 : i64 (86400 * v) = 86400 * v := i64_in _ (by omega)
  unfold F_until_nominal
  simp only [onB_c, onI_c, hOn, hn, hc, Option.bind_some, decide_true, Bool.not_true, cond_false]
  rcases hs with ⟨rfl, h1, h2⟩ | ⟨hb1, h1, h2⟩
  · have e2 : i64 (s + l) = s + l := i64_in _ (by omega)
    have e3 : i64 (86400 * v + (s + l)) = 86400 * v + (s + l) := i64_in _ (by omega)
    rw [e1, e2, e3, decide_eq_true rfl, cond_true, decide_eq_true h1, cond_true, decide_eq_true h2, cond_true, if_pos rfl]
  · have e3 : i64 (86400 * v + s) = 86400 * v + s := i64_in _ (by omega)
    rw [e1, e3, decide_eq_false hb1, cond_false, decide_eq_true h1, cond_true, decide_eq_true h2, cond_true, if_neg hb1]
theorem nom_no {y m k w d s b l v e : Int} (hl : -10800 ≤ l ∧ l ≤ 0) (hOn : F_dayform_On [.i y, .i m, .i k, .i w, .i d] = some [.i v, .i e])
    (h : e ≠ 0 ∨ ¬ (1850 ≤ y ∧ y ≤ 2149) ∨ ¬ (0 ≤ b ∧ b ≤ 2) ∨ ¬ ((b = 1 ∧ -86400 ≤ s + l ∧ s + l ≤ 172800) ∨ (b ≠ 1 ∧ -86400 ≤ s ∧ s ≤ 172800))) : ∃ v', F_until_nominal [.b true, .i y, .i m, .i k, .i w, .i d, .i s, .i b, .i l] = some [.i v', .b false] := by
  have hn := named_at y
  have hc := clock_val s b
  unfold F_until_nominal
  simp only [onB_c, onI_c, hOn, hn, hc, Option.bind_some]
  by_cases h1 : e = 0
  · rw [decide_eq_true h1, Bool.not_true, cond_false]
    by_cases h2 : 1850 ≤ y ∧ y ≤ 2149
    · rw [decide_eq_true h2.1, decide_eq_true h2.2, Bool.and_self, Bool.not_true, cond_false]
      by_cases h3 : (-604799 ≤ s ∧ s ≤ 604799) ∧ (0 ≤ b ∧ b ≤ 2)
      · rw [if_pos h3, decide_eq_true rfl, Bool.not_true, cond_false]
        have h4 : ¬ ((b = 1 ∧ -86400 ≤ s + l ∧ s + l ≤ 172800) ∨ (b ≠ 1 ∧ -86400 ≤ s ∧ s ≤ 172800)) := by
          rcases h with q | q | q | q
          · exact absurd h1 q
          · exact absurd h2 q
          · exact absurd h3.2 q
          · exact q
        have e2 : i64 (s + l) = s + l := i64_in _ (by omega)
        rw [e2]
        by_cases hb : b = 1
        · rw [decide_eq_true hb, cond_true]
          by_cases p : -86400 ≤ s + l
          · rw [decide_eq_true p, decide_eq_false (show ¬ s + l ≤ 172800 by omega)]; exact ⟨_, rfl⟩
          · rw [decide_eq_false p]; exact ⟨_, rfl⟩
        · rw [decide_eq_false hb, cond_false]
          by_cases p : -86400 ≤ s
          · rw [decide_eq_true p, decide_eq_false (show ¬ s ≤ 172800 by omega)]; exact ⟨_, rfl⟩
          · rw [decide_eq_false p]; exact ⟨_, rfl⟩
      · rw [if_neg h3]; exact ⟨_, rfl⟩
    · have : (decide (1850 ≤ y) && decide (y ≤ 2149)) = false := by
        rw [Bool.and_eq_false_iff]
        by_cases q : 1850 ≤ y
        · exact .inr (decide_eq_false (by omega))
        · exact .inl (decide_eq_false q)
      rw [this]; exact ⟨_, rfl⟩
  · rw [decide_eq_false h1]; exact ⟨_, rfl⟩
theorem ends_same (is : Bool) (y m k w d s b l : Int) (hl64 : -9223372036854775808 ≤ l ∧ l ≤ 9223372036854775807) : ∃ n e, F_until_Nominal [.b is, .i y, .i m, .i k, .i w, .i d, .i s, .i b, .i l] = some [.i n, .i e] ∧ F_ref22_Check [.b is, .i y, .i m, .i k, .i w, .i d, .i s, .i b, .i l] = some [.i e] ∧
    F_ref22_Nominal [.b is, .i y, .i m, .i k, .i w, .i d, .i s, .i b, .i l] = some [.i n, .i e] := by
  have rn : ∀ e : Int, e ≠ 0 → F_ref22_Check [.b is, .i y, .i m, .i k, .i w, .i d, .i s, .i b, .i l] = some [.i e] → F_ref22_Nominal [.b is, .i y, .i m, .i k, .i w, .i d, .i s, .i b, .i l] = some [.i 0, .i e] := by
    intro e he h
    unfold F_ref22_Nominal
    simp only [onB_c, onI_c, h, Option.bind_some]
    rw [decide_eq_false he]; rfl
  by_cases h1 : l < -10800
  · have hc : F_ref22_Check [.b is, .i y, .i m, .i k, .i w, .i d, .i s, .i b, .i l] = some [.i 2] := by
      unfold F_ref22_Check
      simp only [onB_c, onI_c]
      rw [decide_eq_true h1]; rfl
    refine ⟨0, 2, ?_, hc, rn 2 (by decide) hc⟩
    unfold F_until_Nominal
    simp only [onB_c, onI_c]
    rw [decide_eq_true h1]; rfl
  by_cases h2 : 0 < l
  · have hc : F_ref22_Check [.b is, .i y, .i m, .i k, .i w, .i d, .i s, .i b, .i l] = some [.i 2] := by
      unfold F_ref22_Check
      simp only [onB_c, onI_c]
      rw [decide_eq_false h1, decide_eq_true h2]; rfl
    refine ⟨0, 2, ?_, hc, rn 2 (by decide) hc⟩
    unfold F_until_Nominal
    simp only [onB_c, onI_c]
    rw [decide_eq_false h1, decide_eq_true h2]; rfl
  have hl : -10800 ≤ l ∧ l ≤ 0 := by omega
  cases is with
  | false =>
    have hc : F_ref22_Check [.b false, .i y, .i m, .i k, .i w, .i d, .i s, .i b, .i l] = some [.i 4] := by
      unfold F_ref22_Check
      simp only [onB_c, onI_c]
      rw [decide_eq_false h1, decide_eq_false h2]; rfl
    refine ⟨0, 4, ?_, hc, rn 4 (by decide) hc⟩
    unfold F_until_Nominal
    simp only [onB_c, onI_c]
    rw [decide_eq_false h1, decide_eq_false h2]; rfl
  | true =>
    obtain ⟨v, e, hOn, hv⟩ := on_total y m k w d
    have NN : ∀ v', F_until_nominal [.b true, .i y, .i m, .i k, .i w, .i d, .i s, .i b, .i l] = some [.i v', .b false] → F_until_Nominal [.b true, .i y, .i m, .i k, .i w, .i d, .i s, .i b, .i l] = some [.i 0, .i 3] := by
      intro v' h
      unfold F_until_Nominal
      simp only [onB_c, onI_c, h]
      rw [decide_eq_false h1, decide_eq_false h2]; rfl
    by_cases hyb : (1850 ≤ y ∧ y ≤ 2149) ∧ (0 ≤ b ∧ b ≤ 2)
    · have hR : F_ref02_On [.i y, .i m, .i k, .i w, .i d] = some [.i v, .i e] := (on_same (by omega)).trans hOn
      have y1 : decide (y < 1850) = false := decide_eq_false (by omega)
      have y2 : decide (2149 < y) = false := decide_eq_false (by omega)
      have b1 : decide (b < 0) = false := decide_eq_false (by omega)
      have b2 : decide (2 < b) = false := decide_eq_false (by omega)
      by_cases he : e = 0
      · subst he
        have t0 : (!decide ((0 : Int) = 0)) = false := rfl
        have i1 : i64 (-86400 - l) = -86400 - l := i64_in _ (by omega)
        have i2 : i64 (172800 - l) = 172800 - l := i64_in _ (by omega)
        by_cases hs : (b = 1 ∧ -86400 ≤ s + l ∧ s + l ≤ 172800) ∨ (b ≠ 1 ∧ -86400 ≤ s ∧ s ≤ 172800)
        · have hn := nom_yes hl hOn hyb.1 hyb.2 hv hs
          have hc : F_ref22_Check [.b true, .i y, .i m, .i k, .i w, .i d, .i s, .i b, .i l] = some [.i 0] := by
            unfold F_ref22_Check
            simp only [onB_c, onI_c, hR, Option.bind_some, decide_true, Bool.not_true, cond_false]
            rw [decide_eq_false h1, decide_eq_false h2, y1, y2, b1, b2]
            rcases hs with ⟨rfl, q1, q2⟩ | ⟨hb1, q1, q2⟩
            · rw [decide_eq_true rfl, i1, i2, decide_eq_false (show ¬ s < -86400 - l by omega), decide_eq_false (show ¬ 172800 - l < s by omega)]; rfl
            · rw [decide_eq_false hb1, decide_eq_false (show ¬ s < -86400 by omega), decide_eq_false (show ¬ 172800 < s by omega)]; rfl
          refine ⟨86400 * v + (if b = 1 then s + l else s), 0, ?_, hc, ?_⟩
          · unfold F_until_Nominal
            simp only [onB_c, onI_c, hn]
            rw [decide_eq_false h1, decide_eq_false h2]; rfl
          · have e1 : i64 (86400 * v) = 86400 * v := i64_in _ (by omega)
            have e2 : i64 (86400 * v + s) = 86400 * v + s := i64_in _ (by omega)
            have hsec : F_ref22_seconds [.b true, .i y, .i m, .i k, .i w, .i d, .i s, .i b] = some [.i (86400 * v + s)] := by
              unfold F_ref22_seconds
              simp only [onB_c, onI_c, hR, Option.bind_some]
              rw [e1, e2]
            have e3 : i64 (86400 * v + s + l) = 86400 * v + s + l := i64_in _ (by omega)
            unfold F_ref22_Nominal
            simp only [onB_c, onI_c, hc, hsec, Option.bind_some, decide_true, Bool.not_true, cond_false]
            rw [e3]
            by_cases hb1 : b = 1
            · rw [decide_eq_true hb1, cond_true, if_pos hb1, Int.add_assoc]
            · rw [decide_eq_false hb1, cond_false, if_neg hb1]
        · obtain ⟨v', hn⟩ := nom_no hl hOn (.inr (.inr (.inr hs)))
          have hc : F_ref22_Check [.b true, .i y, .i m, .i k, .i w, .i d, .i s, .i b, .i l] = some [.i 3] := by
            unfold F_ref22_Check
            simp only [onB_c, onI_c, hR, Option.bind_some, decide_true, Bool.not_true, cond_false]
            rw [decide_eq_false h1, decide_eq_false h2, y1, y2, b1, b2]
            by_cases hb1 : b = 1
            · rw [decide_eq_true hb1, i1, i2]
              by_cases p : s < -86400 - l
              · rw [decide_eq_true p]; rfl
              · rw [decide_eq_false p, decide_eq_true (show 172800 - l < s by omega)]; rfl
            · rw [decide_eq_false hb1]
              by_cases p : s < -86400
              · rw [decide_eq_true p]; rfl
              · rw [decide_eq_false p, decide_eq_true (show 172800 < s by omega)]; rfl
          exact ⟨0, 3, NN v' hn, hc, rn 3 (by decide) hc⟩
      · obtain ⟨v', hn⟩ := nom_no (s := s) (b := b) hl hOn (.inl he)
        have hc : F_ref22_Check [.b true, .i y, .i m, .i k, .i w, .i d, .i s, .i b, .i l] = some [.i 3] := by
          unfold F_ref22_Check
          simp only [onB_c, onI_c, hR, Option.bind_some]
          rw [decide_eq_false h1, decide_eq_false h2, y1, y2, b1, b2, decide_eq_false he]; rfl
        exact ⟨0, 3, NN v' hn, hc, rn 3 (by decide) hc⟩
    · obtain ⟨v', hn⟩ := nom_no (s := s) (b := b) (l := l) hl hOn (by
        by_cases q : 1850 ≤ y ∧ y ≤ 2149
        · exact .inr (.inr (.inl fun p => hyb ⟨q, p⟩))
        · exact .inr (.inl q))
      have hc : F_ref22_Check [.b true, .i y, .i m, .i k, .i w, .i d, .i s, .i b, .i l] = some [.i 3] := by
        unfold F_ref22_Check
        simp only [onB_c, onI_c]
        rw [decide_eq_false h1, decide_eq_false h2]
        by_cases p1 : y < 1850
        · rw [decide_eq_true p1]; rfl
        · rw [decide_eq_false p1]
          by_cases p2 : 2149 < y
          · rw [decide_eq_true p2]; rfl
          · rw [decide_eq_false p2]
            by_cases p3 : b < 0
            · rw [decide_eq_true p3]; rfl
            · rw [decide_eq_false p3, decide_eq_true (show 2 < b by omega)]; rfl
      exact ⟨0, 3, NN v' hn, hc, rn 3 (by decide) hc⟩
theorem lawP_UntilEnds {dats : List Dat} (h : DatOk tau [.bool, .int .i64, .int .i64, .int .i64, .int .i64, .int .i64, .int .i64, .int .i64, .int .i64] dats) : F_law22_UntilEnds dats = some [.b true] := by
  obtain ⟨is, r0, rfl, y, r1, rfl, h1, m, r2, rfl, h2, k, r3, rfl, h3, w, r4, rfl, h4, d, r5, rfl, h5, s, r6, rfl, h6, b, r7, rfl, h7, l, r8, rfl, h8, rfl⟩ := h
  obtain ⟨n, e, hN, hC, hR⟩ := ends_same is y m k w d s b l (wf_i64 h8)
  have hU : F_until_Check [.b is, .i y, .i m, .i k, .i w, .i d, .i s, .i b, .i l] = some [.i e] := by
    unfold F_until_Check
    simp only [onB_c, onI_c, hN, Option.bind_some]
  have hw : F_law22_works [] = some [.b true] := rfl
  unfold F_law22_UntilEnds
  simp only [onB_c, onI_c, hN, hC, hR, hU, hw, Option.bind_some, decide_true, cond_true]
end Go.Proofs.YtcohbcdhcmajiaaDoor
