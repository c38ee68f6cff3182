/-
  Numeric abbreviations: digits.
-/
import Derived.Test.YtnfgmffcnmifkaaMTurnnum
namespace Go.Proofs.Ytnfgmffcnmifkaa
open Go.Ax
set_option linter.all false
set_option maxHeartbeats 16000000
attribute [local congr] cond_cong bind_cong onI_cong onB_cong onS_cong onN_cong onL_cong

theorem dg_inj {p q : Int} (hp : 0 ≤ p ∧ p ≤ 9) (hq : 0 ≤ q ∧ q ≤ 9) (h : dg p = dg q) : p = q := by
  have := dg_val hp; rw [h, dg_val hq] at this; omega
theorem two_inj {p q : Int} {s t : List UInt8} (hp : 0 ≤ p ∧ p ≤ 99) (hq : 0 ≤ q ∧ q ≤ 99) (h : two p ++ s = two q ++ t) : p = q ∧ s = t := by
  unfold two at h
  simp only [List.cons_append, List.nil_append, List.cons.injEq] at h
  have h1 := dg_inj (by omega) (by omega) h.1
  have h2 := dg_inj (by omega) (by omega) h.2.1
  exact ⟨by omega, h.2.2⟩
theorem two_full (q : Int) : (two q).length = 2 := rfl
def sg (b : Bool) : UInt8 := if b then 45 else 43
def sv (b : Bool) (n : Int) : Int := if b then -n else n
theorem NT_sv {b : Bool} {n : Int} (hn : 0 ≤ n ∧ n ≤ 86399) (h : n ≠ 0 ∨ b = false) : NT (sv b n) = sg b :: NB n := by
  cases b with
  | true => exact NT_neg (by rcases h with h | h; omega; cases h)
  | false => exact NT_pos hn
theorem sgn_sv (b : Bool) (t : List UInt8) (n : Int) : sgn (sg b :: t) n = sv b n := by cases b <;> rfl
theorem NT_sv_out {b : Bool} {n : Int} (h : 86399 < n) : NT (sv b n) = [] := NT_out (by unfold sv; cases b <;> simp <;> omega)
/-- Which texts are numbers: of hours alone. -/
theorem txt3 {b : Bool} {h : Int} (hh : 0 ≤ h ∧ h ≤ 99) : NT (sv b (3600 * h)) = sg b :: two h ↔ h < 24 ∧ (h ≠ 0 ∨ b = false) := by
  constructor
  · intro e
    have hr : h < 24 := by
      by_cases q : h < 24
      · exact q
      · rw [NT_sv_out (by omega)] at e; cases e
    refine ⟨hr, ?_⟩
    by_cases h0 : h = 0
    · subst h0
      cases b with
      | false => exact .inr rfl
      | true => exact absurd e (by decide)
    · exact .inl h0
  · rintro ⟨h1, h2⟩
    rw [NT_sv (b := b) (n := 3600 * h) (by omega) (by rcases h2 with q | q; exact .inl (by omega); exact .inr q)]
    unfold NB
    rw [if_pos (by omega), List.append_nil, show 3600 * h / 3600 = h by omega]
theorem txt5 {b : Bool} {h m : Int} (hh : 0 ≤ h ∧ h ≤ 99) (hm : 0 ≤ m ∧ m ≤ 99) : NT (sv b (3600 * h + 60 * m)) = sg b :: (two h ++ two m) ↔ h < 24 ∧ m < 60 ∧ m ≠ 0 := by
  constructor
  · intro e
    by_cases q : 86399 < 3600 * h + 60 * m
    · rw [NT_sv_out q] at e; cases e
    by_cases z : 3600 * h + 60 * m ≠ 0 ∨ b = false
    · rw [NT_sv (b := b) (n := 3600 * h + 60 * m) (by omega) z] at e
      have e := (List.cons.inj e).2
      generalize hn : 3600 * h + 60 * m = n at *
      unfold NB at e
      obtain ⟨e1, e2⟩ := two_inj (by omega) hh e
      by_cases c1 : n % 3600 = 0
      · rw [if_pos c1] at e2; cases e2
      · rw [if_neg c1] at e2
        have e2' : two (n / 60 % 60) ++ (if n % 60 = 0 then [] else two (n % 60)) = two m ++ [] := by rw [e2, List.append_nil]
        obtain ⟨e3, e4⟩ := two_inj (by omega) hm e2'
        omega
    · have z1 : 3600 * h + 60 * m = 0 := Decidable.byContradiction fun q => z (.inl q)
      have z2 : b = true := by cases b with | true => rfl | false => exact absurd (.inr rfl) z
      have : h = 0 ∧ m = 0 := by omega
      obtain ⟨rfl, rfl⟩ := this
      subst z2
      exact absurd e (by decide)
  · rintro ⟨h1, h2, h3⟩
    rw [NT_sv (b := b) (n := 3600 * h + 60 * m) (by omega) (.inl (by omega))]
    unfold NB
    rw [if_neg (by omega), if_pos (by omega), List.append_nil, show (3600 * h + 60 * m) / 3600 = h by omega, show (3600 * h + 60 * m) / 60 % 60 = m by omega]
theorem txt7 {b : Bool} {h m s : Int} (hh : 0 ≤ h ∧ h ≤ 99) (hm : 0 ≤ m ∧ m ≤ 99) (hs : 0 ≤ s ∧ s ≤ 99) : NT (sv b (3600 * h + 60 * m + s)) = sg b :: (two h ++ (two m ++ two s)) ↔ h < 24 ∧ m < 60 ∧ s < 60 ∧ s ≠ 0 := by
  constructor
  · intro e
    by_cases q : 86399 < 3600 * h + 60 * m + s
    · rw [NT_sv_out q] at e; cases e
    by_cases z : 3600 * h + 60 * m + s ≠ 0 ∨ b = false
    · rw [NT_sv (b := b) (n := 3600 * h + 60 * m + s) (by omega) z] at e
      have e := (List.cons.inj e).2
      generalize hn : 3600 * h + 60 * m + s = n at *
      unfold NB at e
      obtain ⟨e1, e2⟩ := two_inj (by omega) hh e
      by_cases c1 : n % 3600 = 0
      · rw [if_pos c1] at e2; cases e2
      · rw [if_neg c1] at e2
        obtain ⟨e3, e4⟩ := two_inj (by omega) hm e2
        by_cases c2 : n % 60 = 0
        · rw [if_pos c2] at e4; cases e4
        · rw [if_neg c2] at e4
          have e4' : two (n % 60) ++ [] = two s ++ [] := by rw [e4]
          have := (two_inj (by omega) hs e4').1
          omega
    · have z1 : 3600 * h + 60 * m + s = 0 := Decidable.byContradiction fun q => z (.inl q)
      have z2 : b = true := by cases b with | true => rfl | false => exact absurd (.inr rfl) z
      have : h = 0 ∧ m = 0 ∧ s = 0 := by omega
      obtain ⟨rfl, rfl, rfl⟩ := this
      subst z2
      exact absurd e (by decide)
  · rintro ⟨h1, h2, h3, h4⟩
    rw [NT_sv (b := b) (n := 3600 * h + 60 * m + s) (by omega) (.inl (by omega))]
    unfold NB
    rw [if_neg (by omega), if_neg (by omega), show (3600 * h + 60 * m + s) / 3600 = h by omega, show (3600 * h + 60 * m + s) / 60 % 60 = m by omega, show (3600 * h + 60 * m + s) % 60 = s by omega]
theorem prs3 {b : Bool} {h : Int} (hh : 0 ≤ h ∧ h ≤ 99) : F_numeric_Parse [.s (sg b :: two h)] = some (if h < 24 ∧ (h ≠ 0 ∨ b = false) then [.i (sv b (3600 * h)), .i 0] else [.i 0, .i 5]) := by
  have hv : val (sg b :: two h) = 3600 * h := by
    unfold val two
    rw [if_pos (by show 3 < 5; omega), DD_dg (p := h / 10) (q := h % 10) (by omega) (by omega) rfl rfl]; omega
  rw [parse_odd (.inl rfl)]
  unfold fin
  rw [hv, sgn_sv]
  by_cases q : h < 24 ∧ (h ≠ 0 ∨ b = false)
  · rw [if_pos ((txt3 hh).2 q), if_pos q]
  · rw [if_neg (fun e => q ((txt3 hh).1 e)), if_neg q]
theorem prs5 {b : Bool} {h m : Int} (hh : 0 ≤ h ∧ h ≤ 99) (hm : 0 ≤ m ∧ m ≤ 99) : F_numeric_Parse [.s (sg b :: (two h ++ two m))] = some (if h < 24 ∧ m < 60 ∧ m ≠ 0 then [.i (sv b (3600 * h + 60 * m)), .i 0] else [.i 0, .i 5]) := by
  have hv : val (sg b :: (two h ++ two m)) = 3600 * h + 60 * m := by
    unfold val two
    rw [if_neg (by show ¬ 5 < 5; omega), if_pos (by show 5 < 7; omega), DD_dg (p := h / 10) (q := h % 10) (by omega) (by omega) rfl rfl, DD_dg (p := m / 10) (q := m % 10) (by omega) (by omega) rfl rfl]; omega
  rw [parse_odd (.inr (.inl rfl))]
  unfold fin
  rw [hv, sgn_sv]
  by_cases q : h < 24 ∧ m < 60 ∧ m ≠ 0
  · rw [if_pos ((txt5 hh hm).2 q), if_pos q]
  · rw [if_neg (fun e => q ((txt5 hh hm).1 e)), if_neg q]
theorem prs7 {b : Bool} {h m s : Int} (hh : 0 ≤ h ∧ h ≤ 99) (hm : 0 ≤ m ∧ m ≤ 99) (hs : 0 ≤ s ∧ s ≤ 99) : F_numeric_Parse [.s (sg b :: (two h ++ (two m ++ two s)))] = some (if h < 24 ∧ m < 60 ∧ s < 60 ∧ s ≠ 0 then [.i (sv b (3600 * h + 60 * m + s)), .i 0] else [.i 0, .i 5]) := by
  have hv : val (sg b :: (two h ++ (two m ++ two s))) = 3600 * h + 60 * m + s := by
    unfold val two
    rw [if_neg (by show ¬ 7 < 5; omega), if_neg (by show ¬ 7 < 7; omega), DD_dg (p := h / 10) (q := h % 10) (by omega) (by omega) rfl rfl, DD_dg (p := m / 10) (q := m % 10) (by omega) (by omega) rfl rfl, DD_dg (p := s / 10) (q := s % 10) (by omega) (by omega) rfl rfl]; omega
  rw [parse_odd (.inr (.inr rfl))]
  unfold fin
  rw [hv, sgn_sv]
  by_cases q : h < 24 ∧ m < 60 ∧ s < 60 ∧ s ≠ 0
  · rw [if_pos ((txt7 hh hm hs).2 q), if_pos q]
  · rw [if_neg (fun e => q ((txt7 hh hm hs).1 e)), if_neg q]
theorem two_cells {q : Int} (h : 0 ≤ q ∧ q ≤ 99) : bytesOf [(Ax.AV.int .u8 (Ax.I.sym (u8 (48 + (u8 (i64 (Int.tdiv q 10))))))), (Ax.AV.int .u8 (Ax.I.sym (u8 (48 + (u8 (Int.tmod q 10))))))] = some (two q) := by
  have d1 : i64 (Int.tdiv q 10) = q / 10 := by rw [tdiv_nn (by omega), i64_in _ (by omega)]
  have d2 : Int.tmod q 10 = q % 10 := tmod_nn (by omega)
  rw [d1, d2, bytesOf_cons, bytesOf_cons, bytesOf_nil]
  simp only [Isym_v, Option.map_some]
  rw [cell_dg (by omega), cell_dg (by omega)]; rfl
theorem beqb (a b : Bool) : (a == b) = decide (a = b) := by cases a <;> cases b <;> rfl
theorem dig_one {h m s : Int} {b : Bool} (hh : 0 ≤ h ∧ h ≤ 99) (hm : 0 ≤ m ∧ m ≤ 99) (hs : 0 ≤ s ∧ s ≤ 99) (x y z : Int) (hx : i64 (Int.tmod x 100) = h) (hy : i64 (Int.tmod y 100) = m) (hz : i64 (Int.tmod z 100) = s) :
    F_law20_NumericDigits [.i x, .i y, .i z, .b b] = some [.b true] := by
  have c1 := two_cells hh
  have c2 := two_cells hm
  have c3 := two_cells hs
  have p3 := prs3 (b := b) hh
  have p5 := prs5 (b := b) hh hm
  have p7 := prs7 (b := b) hh hm hs
  have k3 := txt3 (b := b) hh
  have k5 := txt5 (b := b) hh hm
  have k7 := txt7 (b := b) hh hm hs
  have l1 : (two h).length = 2 := rfl
  have l2 : (two m).length = 2 := rfl
  have l3 : (two s).length = 2 := rfl
  have n0 : i64 (i64 (i64 (3600 * h) + i64 (60 * m)) + s) = 3600 * h + 60 * m + s := by
    rw [i64_in (3600 * h) (by omega), i64_in (60 * m) (by omega), i64_in (3600 * h + 60 * m) (by omega), i64_in _ (by omega)]
  have n1 : i64 (0 - (3600 * h + 60 * m + s)) = -(3600 * h + 60 * m + s) := by rw [i64_in _ (by omega)]; omega
  have t3 : F_numeric_Text [.i (sv b (3600 * h))] = some [.s (NT (sv b (3600 * h)))] := text_at (by unfold sv; cases b <;> simp <;> omega)
  have t5 : F_numeric_Text [.i (sv b (3600 * h + 60 * m))] = some [.s (NT (sv b (3600 * h + 60 * m)))] := text_at (by unfold sv; cases b <;> simp <;> omega)
  have t7 : F_numeric_Text [.i (sv b (3600 * h + 60 * m + s))] = some [.s (NT (sv b (3600 * h + 60 * m + s)))] := text_at (by unfold sv; cases b <;> simp <;> omega)
  generalize hA : two h = A at *
  generalize hB : two m = B at *
  generalize hC : two s = C at *
  clear hA hB hC
  -- each text is a number or none
  have g3 : ∃ r e, F_numeric_Parse [.s (sg b :: A)] = some [.i r, .i e] ∧ ((h < 24 ∧ (h ≠ 0 ∨ b = false) ∧ e = 0 ∧ F_numeric_Text [.i r] = some [.s (sg b :: A)]) ∨ (¬ (h < 24 ∧ (h ≠ 0 ∨ b = false)) ∧ r = 0 ∧ e = 5)) := by
    by_cases q : h < 24 ∧ (h ≠ 0 ∨ b = false)
    · rw [if_pos q] at p3; rw [k3.2 q] at t3; exact ⟨_, _, p3, .inl ⟨q.1, q.2, rfl, t3⟩⟩
    · rw [if_neg q] at p3; exact ⟨_, _, p3, .inr ⟨q, rfl, rfl⟩⟩
  have g5 : ∃ r e, F_numeric_Parse [.s (sg b :: (A ++ B))] = some [.i r, .i e] ∧ ((h < 24 ∧ m < 60 ∧ m ≠ 0 ∧ e = 0 ∧ F_numeric_Text [.i r] = some [.s (sg b :: (A ++ B))]) ∨ (¬ (h < 24 ∧ m < 60 ∧ m ≠ 0) ∧ r = 0 ∧ e = 5)) := by
    by_cases q : h < 24 ∧ m < 60 ∧ m ≠ 0
    · rw [if_pos q] at p5; rw [k5.2 q] at t5; exact ⟨_, _, p5, .inl ⟨q.1, q.2.1, q.2.2, rfl, t5⟩⟩
    · rw [if_neg q] at p5; exact ⟨_, _, p5, .inr ⟨q, rfl, rfl⟩⟩
  have g7 : ∃ r e, F_numeric_Parse [.s (sg b :: (A ++ (B ++ C)))] = some [.i r, .i e] ∧ ((h < 24 ∧ m < 60 ∧ s < 60 ∧ s ≠ 0 ∧ e = 0 ∧ r = sv b (3600 * h + 60 * m + s) ∧ F_numeric_Text [.i r] = some [.s (sg b :: (A ++ (B ++ C)))]) ∨ (¬ (h < 24 ∧ m < 60 ∧ s < 60 ∧ s ≠ 0) ∧ r = 0 ∧ e = 5)) := by
    by_cases q : h < 24 ∧ m < 60 ∧ s < 60 ∧ s ≠ 0
    · rw [if_pos q] at p7; rw [k7.2 q] at t7; exact ⟨_, _, p7, .inl ⟨q.1, q.2.1, q.2.2.1, q.2.2.2, rfl, rfl, t7⟩⟩
    · rw [if_neg q] at p7; exact ⟨_, _, p7, .inr ⟨q, rfl, rfl⟩⟩
  clear p3 p5 p7 k3 k5 k7 t3 t5 t7
  obtain ⟨r3, e3, p3, o3⟩ := g3
  obtain ⟨r5, e5, p5, o5⟩ := g5
  obtain ⟨r7, e7, p7, o7⟩ := g7
  generalize hw : 3600 * h + 60 * m + s = w at *
  have hw0 : w = 0 ↔ h = 0 ∧ m = 0 ∧ s = 0 := by omega
  have nn : (-w = 0) ↔ w = 0 := by omega
  have tt : (true == true) = true := rfl
  have tf : (true == false) = false := rfl
  have ft : (false == true) = false := rfl
  have ff : (false == false) = true := rfl
  have w5 : (bif (decide (h < 24)) then (bif (decide (m < 60)) then (bif (!decide (m = 0)) then (some true) else (some false)) else (some false)) else (some false)) = some (decide (h < 24 ∧ m < 60 ∧ m ≠ 0)) := by
    by_cases a1 : h < 24 <;> by_cases a3 : m < 60 <;> by_cases a4 : m = 0 <;> simp [a1, a3, a4]
  unfold F_law20_NumericDigits
  cases b with
  | false =>
    have p3 : F_numeric_Parse [.s (43 :: A)] = _ := p3
    have p5 : F_numeric_Parse [.s (43 :: (A ++ B))] = _ := p5
    have p7 : F_numeric_Parse [.s (43 :: (A ++ (B ++ C)))] = _ := p7
    have w0 : (bif (decide (h < 24)) then (bif (decide (m < 60)) then (bif (decide (s < 60)) then (bif (!decide (w = 0)) then (some true) else (some true)) else (some false)) else (some false)) else (some false)) = some (decide (h < 24 ∧ m < 60 ∧ s < 60)) := by
      by_cases a1 : h < 24 <;> by_cases a3 : m < 60 <;> by_cases a4 : s < 60 <;> by_cases a5 : w = 0 <;> simp [a1, a3, a4, a5]
    have w3 : (bif (decide (h < 24)) then (bif (!decide (h = 0)) then (some true) else (some true)) else (some false)) = some (decide (h < 24 ∧ h < 25)) := by
      have hx : h < 24 → h < 25 := by omega
      by_cases a1 : h < 24 <;> by_cases a3 : h = 0 <;> simp [a1, a3, hx]
    have w7 : (bif (decide (h < 24 ∧ m < 60 ∧ s < 60)) then (bif (!decide (s = 0)) then (some true) else (some false)) else (some false)) = some (decide (h < 24 ∧ m < 60 ∧ s < 60 ∧ s ≠ 0)) := by
      by_cases a1 : h < 24 <;> by_cases a3 : m < 60 <;> by_cases a4 : s < 60 <;> by_cases a5 : s = 0 <;> simp [a1, a3, a4, a5]
    have u3 : (decide (h < 24 ∧ h < 25) = true ∧ e3 = 0 ∧ F_numeric_Text [.i r3] = some [.s (43 :: A)]) ∨ (decide (h < 24 ∧ h < 25) = false ∧ r3 = 0 ∧ e3 = 5) := by
      rcases o3 with ⟨q1, _, q2, q3⟩ | ⟨q1, q2, q3⟩
      · exact .inl ⟨decide_eq_true ⟨q1, by omega⟩, q2, q3⟩
      · exact .inr ⟨decide_eq_false (fun z => q1 ⟨z.1, .inr rfl⟩), q2, q3⟩
    have u5 : (decide (h < 24 ∧ m < 60 ∧ m ≠ 0) = true ∧ e5 = 0 ∧ F_numeric_Text [.i r5] = some [.s (43 :: (A ++ B))]) ∨ (decide (h < 24 ∧ m < 60 ∧ m ≠ 0) = false ∧ r5 = 0 ∧ e5 = 5) := by
      rcases o5 with ⟨q1, q2, q3, q4, q5⟩ | ⟨q1, q2, q3⟩
      · exact .inl ⟨decide_eq_true ⟨q1, q2, q3⟩, q4, q5⟩
      · exact .inr ⟨decide_eq_false q1, q2, q3⟩
    have u7 : (decide (h < 24 ∧ m < 60 ∧ s < 60 ∧ s ≠ 0) = true ∧ e7 = 0 ∧ r7 = w ∧ F_numeric_Text [.i w] = some [.s (43 :: (A ++ (B ++ C)))]) ∨ (decide (h < 24 ∧ m < 60 ∧ s < 60 ∧ s ≠ 0) = false ∧ r7 = 0 ∧ e7 = 5) := by
      rcases o7 with ⟨q1, q2, q3, q4, q5, q6, q7⟩ | ⟨q1, q2, q3⟩
      · subst q6; exact .inl ⟨decide_eq_true ⟨q1, q2, q3, q4⟩, q5, rfl, q7⟩
      · exact .inr ⟨decide_eq_false q1, q2, q3⟩
    clear o3 o5 o7 hw0 nn hh hm hs n1
    rcases u3 with ⟨d3, rfl, t3⟩ | ⟨d3, rfl, rfl⟩ <;> rcases u5 with ⟨d5, rfl, t5⟩ | ⟨d5, rfl, rfl⟩ <;> rcases u7 with ⟨d7, rfl, rfl, t7⟩ | ⟨d7, rfl, rfl⟩ <;>
      simp (disch := omega) only [onI_c, onS_c, onB_c, onN_c, onL_c, Option.bind_some, Option.map_some, cond_true, cond_false, ↓onI_c, ↓onS_c, ↓onB_c, ↓onN_c, ↓onL_c, ↓Option.bind_some, ↓cond_true, ↓cond_false, decide_eq_true, decide_eq_false, Bool.not_true, Bool.not_false, Int.toNat_natCast, List.length_append, List.length_cons, List.length_nil, List.drop_zero, Nat.zero_add, Nat.add_zero, decT, decF, bneI_t, bneI_f, hx, hy, hz, n0, c1, c2, c3, l1, l2, l3, w0, w3, w5, w7, d3, d5, d7, p3, p5, p7, tt, tf, ft, ff, works_at, beq_self_eq_true, List.cons_append, List.nil_append, List.append_assoc, Nat.reduceAdd, Nat.reduceLeDiff, *]
  | true =>
    have p3 : F_numeric_Parse [.s (45 :: A)] = _ := p3
    have p5 : F_numeric_Parse [.s (45 :: (A ++ B))] = _ := p5
    have p7 : F_numeric_Parse [.s (45 :: (A ++ (B ++ C)))] = _ := p7
    have w0 : (bif (decide (h < 24)) then (bif (decide (m < 60)) then (bif (decide (s < 60)) then (bif (!decide (-w = 0)) then (some true) else (some false)) else (some false)) else (some false)) else (some false)) = some (decide (h < 24 ∧ m < 60 ∧ s < 60 ∧ w ≠ 0)) := by
      by_cases a1 : h < 24 <;> by_cases a3 : m < 60 <;> by_cases a4 : s < 60 <;> by_cases a5 : w = 0 <;> simp [a1, a3, a4, a5]
    have w3 : (bif (decide (h < 24)) then (bif (!decide (h = 0)) then (some true) else (some false)) else (some false)) = some (decide (h < 24 ∧ h ≠ 0)) := by
      by_cases a1 : h < 24 <;> by_cases a3 : h = 0 <;> simp [a1, a3]
    have w7 : (bif (decide (h < 24 ∧ m < 60 ∧ s < 60 ∧ w ≠ 0)) then (bif (!decide (s = 0)) then (some true) else (some false)) else (some false)) = some (decide (h < 24 ∧ m < 60 ∧ s < 60 ∧ s ≠ 0)) := by
      by_cases a5 : s = 0
      · simp [a5]
      · have : w ≠ 0 := by omega
        by_cases a1 : h < 24 <;> by_cases a3 : m < 60 <;> by_cases a4 : s < 60 <;> simp [a1, a3, a4, a5, this]
    have u3 : (decide (h < 24 ∧ h ≠ 0) = true ∧ e3 = 0 ∧ F_numeric_Text [.i r3] = some [.s (45 :: A)]) ∨ (decide (h < 24 ∧ h ≠ 0) = false ∧ r3 = 0 ∧ e3 = 5) := by
      rcases o3 with ⟨q1, q1', q2, q3⟩ | ⟨q1, q2, q3⟩
      · exact .inl ⟨decide_eq_true ⟨q1, by rcases q1' with q | q; exact q; cases q⟩, q2, q3⟩
      · exact .inr ⟨decide_eq_false (fun z => q1 ⟨z.1, .inl z.2⟩), q2, q3⟩
    have u5 : (decide (h < 24 ∧ m < 60 ∧ m ≠ 0) = true ∧ e5 = 0 ∧ F_numeric_Text [.i r5] = some [.s (45 :: (A ++ B))]) ∨ (decide (h < 24 ∧ m < 60 ∧ m ≠ 0) = false ∧ r5 = 0 ∧ e5 = 5) := by
      rcases o5 with ⟨q1, q2, q3, q4, q5⟩ | ⟨q1, q2, q3⟩
      · exact .inl ⟨decide_eq_true ⟨q1, q2, q3⟩, q4, q5⟩
      · exact .inr ⟨decide_eq_false q1, q2, q3⟩
    have u7 : (decide (h < 24 ∧ m < 60 ∧ s < 60 ∧ s ≠ 0) = true ∧ e7 = 0 ∧ r7 = -w ∧ F_numeric_Text [.i (-w)] = some [.s (45 :: (A ++ (B ++ C)))]) ∨ (decide (h < 24 ∧ m < 60 ∧ s < 60 ∧ s ≠ 0) = false ∧ r7 = 0 ∧ e7 = 5) := by
      rcases o7 with ⟨q1, q2, q3, q4, q5, q6, q7⟩ | ⟨q1, q2, q3⟩
      · subst q6; exact .inl ⟨decide_eq_true ⟨q1, q2, q3, q4⟩, q5, rfl, q7⟩
      · exact .inr ⟨decide_eq_false q1, q2, q3⟩
    clear o3 o5 o7 hw0 nn hh hm hs
    rcases u3 with ⟨d3, rfl, t3⟩ | ⟨d3, rfl, rfl⟩ <;> rcases u5 with ⟨d5, rfl, t5⟩ | ⟨d5, rfl, rfl⟩ <;> rcases u7 with ⟨d7, rfl, rfl, t7⟩ | ⟨d7, rfl, rfl⟩ <;>
      simp (disch := omega) only [onI_c, onS_c, onB_c, onN_c, onL_c, Option.bind_some, Option.map_some, cond_true, cond_false, ↓onI_c, ↓onS_c, ↓onB_c, ↓onN_c, ↓onL_c, ↓Option.bind_some, ↓cond_true, ↓cond_false, decide_eq_true, decide_eq_false, Bool.not_true, Bool.not_false, Int.toNat_natCast, List.length_append, List.length_cons, List.length_nil, List.drop_zero, Nat.zero_add, Nat.add_zero, decT, decF, bneI_t, bneI_f, hx, hy, hz, n0, n1, c1, c2, c3, l1, l2, l3, w0, w3, w5, w7, d3, d5, d7, p3, p5, p7, tt, tf, ft, ff, works_at, beq_self_eq_true, List.cons_append, List.nil_append, List.append_assoc, Nat.reduceAdd, Nat.reduceLeDiff, *]
theorem lawP_NumericDigits {dats : List Dat} (h : DatOk tau [.int .u8, .int .u8, .int .u8, .bool] dats) : F_law20_NumericDigits dats = some [.b true] := by
  obtain ⟨x, r, rfl, hx, y, r, rfl, hy, z, r, rfl, hz, b, r, rfl, rfl⟩ := h
  have hx := wf_u8 hx
  have hy := wf_u8 hy
  have hz := wf_u8 hz
  have e : ∀ x : Int, 0 ≤ x ∧ x ≤ 255 → i64 (Int.tmod x 100) = x % 100 := fun x h => by rw [tmod_nn (by omega), i64_in _ (by omega)]
  exact dig_one (by omega) (by omega) (by omega) x y z (e x hx) (e y hy) (e z hz)
end Go.Proofs.Ytnfgmffcnmifkaa
