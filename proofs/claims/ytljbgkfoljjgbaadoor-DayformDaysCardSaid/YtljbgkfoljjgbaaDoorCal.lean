/-
  Plain mathematics of the Gregorian calendar: leap years, lengths of months, numbers of days. No program.
-/
import GoSem.Claim
namespace Go.Proofs.YtljbgkfoljjgbaaDoor.Cal
set_option linter.unusedVariables false
set_option linter.unusedSimpArgs false

/-- Leap years. -/
def lpB (y : Int) : Bool := decide (y % 4 = 0 ∧ (y % 100 ≠ 0 ∨ y % 400 = 0))
/-- 1 in leap years, else 0. -/
def lp (y : Int) : Int := if lpB y then 1 else 0
/-- Days from 1970-01-01 to January 1 of a year. -/
def first (y : Int) : Int := 365 * y + (y - 1) / 4 - (y - 1) / 100 + (y - 1) / 400 + 1 - 719528
/-- The length of a month. -/
def len (y m : Int) : Int := if m = 2 then 28 + lp y else if m = 4 ∨ m = 6 ∨ m = 9 ∨ m = 11 then 30 else if 1 ≤ m ∧ m ≤ 12 then 31 else 0
/-- Days of a common year before a month (the program's table). -/
def bef (m : Int) : Int := if m = 1 then 0 else if m = 2 then 31 else if m = 3 then 59 else if m = 4 then 90 else if m = 5 then 120 else if m = 6 then 151 else if m = 7 then 181 else if m = 8 then 212 else if m = 9 then 243 else if m = 10 then 273 else if m = 11 then 304 else if m = 12 then 334 else 365
/-- Days of a year before a month. -/
def cum (y m : Int) : Int := bef m + if 2 < m then lp y else 0
/-- The number of a day. -/
def num (y m d : Int) : Int := first y + cum y m + d - 1

theorem lpB_iff (y : Int) : lpB y = true ↔ (y % 4 = 0 ∧ (y % 100 ≠ 0 ∨ y % 400 = 0)) := by simp [lpB]
theorem lp_01 (y : Int) : lp y = 0 ∨ lp y = 1 := by unfold lp; split <;> simp
theorem lp_yes {y : Int} (h : lpB y = true) : lp y = 1 := by simp [lp, h]
theorem lp_no {y : Int} (h : lpB y = false) : lp y = 0 := by simp [lp, h]
theorem first_succ (y : Int) : first (y + 1) = first y + 365 + lp y := by
  unfold first
  by_cases h : lpB y = true
  · rw [lp_yes h]; rw [lpB_iff] at h; omega
  · have h' : lpB y = false := by simpa using h
    rw [lp_no h']
    rw [lpB_iff] at h; omega
theorem first_add (y : Int) (k : Nat) : first y + 365 * k ≤ first (y + k) := by
  induction k with
  | zero => simp
  | succ k ih =>
    have := first_succ (y + k)
    have := lp_01 (y + k)
    have e : y + ((k + 1 : Nat) : Int) = y + k + 1 := by omega
    rw [e]; omega
theorem first_mono {a b : Int} (h : a ≤ b) : first a + 365 * (b - a) ≤ first b := by
  obtain ⟨k, rfl⟩ : ∃ k : Nat, b = a + k := ⟨(b - a).toNat, by omega⟩
  have := first_add a k; omega
/-- The year of a day is one. -/
theorem year_unique {n a b : Int} (a1 : first a ≤ n) (a2 : n < first (a + 1)) (b1 : first b ≤ n) (b2 : n < first (b + 1)) : a = b := by
  rcases Int.lt_trichotomy a b with h | h | h
  · have := first_mono (show a + 1 ≤ b by omega); omega
  · exact h
  · have := first_mono (show b + 1 ≤ a by omega); omega
theorem first_cycle (y k : Int) : first (y + 400 * k) = first y + 146097 * k := by unfold first; omega
theorem lpB_cycle (y : Int) : lpB (y + 400) = lpB y := by
  rw [Bool.eq_iff_iff, lpB_iff, lpB_iff]; omega
theorem lp_cycle (y : Int) : lp (y + 400) = lp y := by unfold lp; rw [lpB_cycle]
theorem first_400 (c : Int) : first (c * 400) = c * 146097 - 719528 := by unfold first; omega
theorem m12 {m : Int} (h1 : 1 ≤ m) (h2 : m ≤ 12) : m = 1 ∨ m = 2 ∨ m = 3 ∨ m = 4 ∨ m = 5 ∨ m = 6 ∨ m = 7 ∨ m = 8 ∨ m = 9 ∨ m = 10 ∨ m = 11 ∨ m = 12 := by omega
theorem len_in {y m : Int} (h1 : 1 ≤ m) (h2 : m ≤ 12) : 28 ≤ len y m ∧ len y m ≤ 31 := by
  have := lp_01 y
  rcases m12 h1 h2 with rfl | rfl | rfl | rfl | rfl | rfl | rfl | rfl | rfl | rfl | rfl | rfl <;> simp [len] <;> omega
theorem len_out {y m : Int} (h : m < 1 ∨ 12 < m) : len y m = 0 := by
  unfold len; rw [if_neg (by omega), if_neg (by omega), if_neg (by omega)]
theorem len_bd (y m : Int) : 0 ≤ len y m ∧ len y m ≤ 31 := by
  by_cases h : 1 ≤ m ∧ m ≤ 12
  · have := len_in (y := y) h.1 h.2; omega
  · rw [len_out (by omega)]; omega
theorem len_month {y m : Int} (h : 0 < len y m) : 1 ≤ m ∧ m ≤ 12 := by
  by_cases hm : 1 ≤ m ∧ m ≤ 12
  · exact hm
  · rw [len_out (by omega)] at h; omega
theorem cum_succ {y m : Int} (h1 : 1 ≤ m) (h2 : m ≤ 12) : cum y (m + 1) = cum y m + len y m := by
  rcases m12 h1 h2 with rfl | rfl | rfl | rfl | rfl | rfl | rfl | rfl | rfl | rfl | rfl | rfl <;> simp [cum, bef, len] <;> omega
theorem cum_1 (y : Int) : cum y 1 = 0 := by simp [cum, bef]
theorem cum_13 (y : Int) : cum y 13 = 365 + lp y := by simp [cum, bef]
theorem cum_bd {y m : Int} (h1 : 1 ≤ m) (h2 : m ≤ 13) : 0 ≤ cum y m ∧ cum y m ≤ 366 := by
  have := lp_01 y
  have hm : m = 13 ∨ (1 ≤ m ∧ m ≤ 12) := by omega
  rcases hm with rfl | ⟨h1, h2⟩
  · rw [cum_13]; omega
  · rcases m12 h1 h2 with rfl | rfl | rfl | rfl | rfl | rfl | rfl | rfl | rfl | rfl | rfl | rfl <;> simp [cum, bef] <;> omega
theorem cum_mono {y m k : Int} (h1 : 1 ≤ m) (h2 : m < k) (h3 : k ≤ 13) : cum y m + len y m ≤ cum y k := by
  obtain ⟨j, rfl⟩ : ∃ j : Nat, k = m + 1 + j := ⟨(k - (m + 1)).toNat, by omega⟩
  clear h2
  induction j with
  | zero => simp [cum_succ h1 (show m ≤ 12 by omega)]
  | succ j ih =>
    have e : m + 1 + ((j + 1 : Nat) : Int) = m + 1 + j + 1 := by omega
    rw [e, cum_succ (by omega) (by omega)]
    have := ih (by omega)
    have := len_bd y (m + 1 + j)
    omega
/-- The month of a day of a year is one. -/
theorem month_unique {y r a b : Int} (ha : 1 ≤ a) (ha' : a ≤ 12) (hb : 1 ≤ b) (hb' : b ≤ 12) (a1 : cum y a ≤ r) (a2 : r < cum y a + len y a) (b1 : cum y b ≤ r) (b2 : r < cum y b + len y b) : a = b := by
  rcases Int.lt_trichotomy a b with h | h | h
  · have := cum_mono (y := y) ha h (by omega); omega
  · exact h
  · have := cum_mono (y := y) hb h (by omega); omega
/-- A date that there is. -/
structure Ok (y m d : Int) : Prop where
  m1 : 1 ≤ m
  m2 : m ≤ 12
  d1 : 1 ≤ d
  d2 : d ≤ len y m
theorem Ok.rest {y m d : Int} (h : Ok y m d) : 0 ≤ cum y m + d - 1 ∧ cum y m + d - 1 < 365 + lp y := by
  have a := cum_bd (y := y) h.m1 (by have := h.m2; omega)
  have b := cum_succ (y := y) h.m1 h.m2
  have c := h.d1
  have d := h.d2
  have e : cum y (m + 1) ≤ cum y 13 := by
    by_cases hm : m = 12
    · subst hm; exact Int.le_refl _
    · have := cum_mono (y := y) (m := m + 1) (k := 13) (by have := h.m1; omega) (by have := h.m2; omega) (by omega)
      have := len_bd y (m + 1); omega
  rw [cum_13] at e
  omega
theorem Ok.year {y m d : Int} (h : Ok y m d) : first y ≤ num y m d ∧ num y m d < first (y + 1) := by
  have := h.rest
  rw [first_succ]; unfold num; omega
/-- A day has one date. -/
theorem num_inj {y m d y' m' d' : Int} (h : Ok y m d) (h' : Ok y' m' d') (e : num y m d = num y' m' d') : y = y' ∧ m = m' ∧ d = d' := by
  have hy : y = y' := by
    have a := h.year; have b := h'.year
    rw [← e] at b
    exact year_unique a.1 a.2 b.1 b.2
  subst hy
  have e2 : cum y m + d - 1 = cum y m' + d' - 1 := by unfold num at e; omega
  have hm : m = m' := by
    have := h.d1; have := h.d2; have := h'.d1; have := h'.d2
    exact month_unique (y := y) (r := cum y m + d - 1) h.m1 h.m2 h'.m1 h'.m2 (by omega) (by omega) (by omega) (by omega)
  subst hm
  exact ⟨rfl, rfl, by omega⟩
/-- Later dates have greater numbers. -/
theorem num_lt {y m d y' m' d' : Int} (h : Ok y m d) (h' : Ok y' m' d') : num y m d < num y' m' d' ↔ (y < y' ∨ (y = y' ∧ (m < m' ∨ (m = m' ∧ d < d')))) := by
  have a := h.year; have b := h'.year
  rcases Int.lt_trichotomy y y' with hy | hy | hy
  · have := first_mono (show y + 1 ≤ y' by omega); omega
  · subst hy
    have := h.d1; have := h.d2; have := h'.d1; have := h'.d2
    rcases Int.lt_trichotomy m m' with hm | hm | hm
    · have := cum_mono (y := y) h.m1 hm (by have := h'.m2; omega)
      unfold num; omega
    · subst hm; unfold num; omega
    · have := cum_mono (y := y) h'.m1 hm (by have := h.m2; omega)
      unfold num; omega
  · have := first_mono (show y' + 1 ≤ y by omega); omega

/-- The year of a cycle of 400 years, counted from March, by the program's formula. -/
def yoc (r : Int) : Int := (r - r / 1460 + r / 36524 - r / 146096) / 365
theorem yoc_bd {r : Int} (h1 : 0 ≤ r) (h2 : r < 146097) : 0 ≤ yoc r ∧ yoc r ≤ 399 ∧ 365 * yoc r + yoc r / 4 - yoc r / 100 ≤ r ∧ r < 365 * (yoc r + 1) + (yoc r + 1) / 4 - (yoc r + 1) / 100 + (yoc r + 1) / 400 := by
  unfold yoc
  generalize hg : r / 146096 = g
  generalize hc : r / 36524 = c
  generalize he : r / 1460 = e
  generalize hb : (r - e + c - g) / 365 = b
  have g01 : g = 0 ∨ g = 1 := by omega
  have c04 : c = 0 ∨ c = 1 ∨ c = 2 ∨ c = 3 ∨ c = 4 := by omega
  generalize hq : b / 4 = q
  generalize hq1 : (b + 1) / 4 = q1
  have x1 : 0 ≤ b ∧ b ≤ 399 := by rcases g01 with rfl | rfl <;> rcases c04 with rfl | rfl | rfl | rfl | rfl <;> omega
  have x2 : b / 100 = c - g := by rcases g01 with rfl | rfl <;> rcases c04 with rfl | rfl | rfl | rfl | rfl <;> omega
  have x3 : 365 * b + q - (c - g) ≤ r := by rcases g01 with rfl | rfl <;> rcases c04 with rfl | rfl | rfl | rfl | rfl <;> omega
  refine ⟨x1.1, x1.2, by omega, ?_⟩
  have q4 : b = 4 * q ∨ b = 4 * q + 1 ∨ b = 4 * q + 2 ∨ b = 4 * q + 3 := by omega
  by_cases h : (b + 1) / 100 = b / 100
  · rw [h, x2]
    have h4 : (b + 1) / 400 = 0 := by omega
    rw [h4]
    have e3 : c - g = b / 100 := x2.symm
    have x4 : r - e + (c - g) < 365 * (b + 1) := by omega
    have x5 : 365 * b ≤ r - e + (c - g) := by omega
    clear hg hc g01 c04 x2 hb
    rcases q4 with rfl | rfl | rfl | rfl
    all_goals
      have : 0 ≤ c - g ∧ c - g ≤ 3 := by omega
      omega
  · have h' : (b + 1) / 100 = b / 100 + 1 := by omega
    rw [h', x2]; rcases g01 with rfl | rfl <;> rcases c04 with rfl | rfl | rfl | rfl | rfl <;> omega
/-- The month from March on, and the day of the month, of a day of a year that begins with March 1. -/
theorem march {k : Int} (h1 : 0 ≤ k) (h2 : k ≤ 365) : 0 ≤ (5 * k + 2) / 153 ∧ (5 * k + 2) / 153 ≤ 11 ∧ (153 * ((5 * k + 2) / 153) + 2) / 5 ≤ k ∧ k < (153 * ((5 * k + 2) / 153 + 1) + 2) / 5 := by omega

/-! ## the date of a day -/
def ic (n : Int) : Int := n + 719468 - (n + 719468) / 146097 * 146097
def cy (n : Int) : Int := (n + 719468) / 146097
def iy (n : Int) : Int := ic n - (365 * yoc (ic n) + yoc (ic n) / 4 - yoc (ic n) / 100)
/-- The month and the day of the month of a day of a year that begins with March 1. -/
def fm (k : Int) : Int := ((5 * k + 2) / 153 + 2) % 12 + 1
def fd (k : Int) : Int := k - (153 * ((5 * k + 2) / 153) + 2) / 5 + 1
def mq (n : Int) : Int := (5 * iy n + 2) / 153
def mo (n : Int) : Int := fm (iy n)
def dy (n : Int) : Int := fd (iy n)
def yr (n : Int) : Int := yoc (ic n) + cy n * 400 + if mo n ≤ 2 then 1 else 0
theorem ic_bd (n : Int) : 0 ≤ ic n ∧ ic n < 146097 := by unfold ic; omega
theorem iy_bd (n : Int) : 0 ≤ iy n ∧ iy n ≤ 365 := by
  have h := ic_bd n
  have := yoc_bd h.1 h.2
  unfold iy; omega
theorem march1 (y : Int) : first (y + 1) = 365 * y + y / 4 - y / 100 + y / 400 - 719468 + 306 := by unfold first; rw [Int.add_sub_cancel]; omega
theorem of_march (n : Int) : ∃ Y : Int, Y = yoc (ic n) + cy n * 400 ∧ n = first (Y + 1) - 306 + iy n ∧ 0 ≤ iy n ∧ iy n ≤ 364 + lp (Y + 1) := by
  refine ⟨_, rfl, ?_⟩
  have h := ic_bd n
  have hy := yoc_bd h.1 h.2
  have e : n = -719468 + cy n * 146097 + ic n := by unfold cy ic; omega
  have l := first_succ (yoc (ic n) + cy n * 400 + 1)
  rw [march1] at l ⊢
  rw [march1] at l
  unfold iy
  generalize yoc (ic n) = a at *
  generalize cy n = c at *
  generalize ic n = r at *
  generalize lp (a + c * 400 + 1) = p at *
  have e1 : (a + c * 400) / 400 = c := by omega
  have e2 : (a + c * 400 + 1) / 400 = c + (a + 1) / 400 := by omega
  have e3 : (a + c * 400) / 100 = a / 100 + 4 * c := by omega
  have e4 : (a + c * 400 + 1) / 100 = (a + 1) / 100 + 4 * c := by omega
  have e5 : (a + c * 400) / 4 = a / 4 + 100 * c := by omega
  have e6 : (a + c * 400 + 1) / 4 = (a + 1) / 4 + 100 * c := by omega
  rw [e1, e2, e3, e4, e5, e6] at l
  rw [e1, e3, e5]
  omega
theorem date_ok (n : Int) : Ok (yr n) (mo n) (dy n) ∧ num (yr n) (mo n) (dy n) = n := by
  obtain ⟨Y, hY, hn, h0, h1⟩ := of_march n
  have l01 := lp_01 (Y + 1)
  have hm := march h0 (by omega)
  have hs := first_succ Y
  unfold yr
  rw [← hY]
  have hmo : mo n = (mq n + 2) % 12 + 1 := rfl
  have hdy : dy n = iy n - (153 * mq n + 2) / 5 + 1 := rfl
  have hq : (5 * iy n + 2) / 153 = mq n := rfl
  rw [hq] at hm
  generalize mq n = q at *
  generalize iy n = i at *
  have c : q = 0 ∨ q = 1 ∨ q = 2 ∨ q = 3 ∨ q = 4 ∨ q = 5 ∨ q = 6 ∨ q = 7 ∨ q = 8 ∨ q = 9 ∨ q = 10 ∨ q = 11 := by omega
  clear hq
  rcases c with rfl | rfl | rfl | rfl | rfl | rfl | rfl | rfl | rfl | rfl | rfl | rfl
  · have e1 : mo n = 3 := by omega
    rw [e1, if_neg (by omega), Int.add_zero]
    have e2 : len (Y) 3 = 31 := by simp [len]
    have e3 : cum (Y) 3 = 59 + lp Y := by simp [cum, bef]
    exact ⟨⟨by omega, by omega, by omega, by omega⟩, by unfold num; omega⟩
  · have e1 : mo n = 4 := by omega
    rw [e1, if_neg (by omega), Int.add_zero]
    have e2 : len (Y) 4 = 30 := by simp [len]
    have e3 : cum (Y) 4 = 90 + lp Y := by simp [cum, bef]
    exact ⟨⟨by omega, by omega, by omega, by omega⟩, by unfold num; omega⟩
  · have e1 : mo n = 5 := by omega
    rw [e1, if_neg (by omega), Int.add_zero]
    have e2 : len (Y) 5 = 31 := by simp [len]
    have e3 : cum (Y) 5 = 120 + lp Y := by simp [cum, bef]
    exact ⟨⟨by omega, by omega, by omega, by omega⟩, by unfold num; omega⟩
  · have e1 : mo n = 6 := by omega
    rw [e1, if_neg (by omega), Int.add_zero]
    have e2 : len (Y) 6 = 30 := by simp [len]
    have e3 : cum (Y) 6 = 151 + lp Y := by simp [cum, bef]
    exact ⟨⟨by omega, by omega, by omega, by omega⟩, by unfold num; omega⟩
  · have e1 : mo n = 7 := by omega
    rw [e1, if_neg (by omega), Int.add_zero]
    have e2 : len (Y) 7 = 31 := by simp [len]
    have e3 : cum (Y) 7 = 181 + lp Y := by simp [cum, bef]
    exact ⟨⟨by omega, by omega, by omega, by omega⟩, by unfold num; omega⟩
  · have e1 : mo n = 8 := by omega
    rw [e1, if_neg (by omega), Int.add_zero]
    have e2 : len (Y) 8 = 31 := by simp [len]
    have e3 : cum (Y) 8 = 212 + lp Y := by simp [cum, bef]
    exact ⟨⟨by omega, by omega, by omega, by omega⟩, by unfold num; omega⟩
  · have e1 : mo n = 9 := by omega
    rw [e1, if_neg (by omega), Int.add_zero]
    have e2 : len (Y) 9 = 30 := by simp [len]
    have e3 : cum (Y) 9 = 243 + lp Y := by simp [cum, bef]
    exact ⟨⟨by omega, by omega, by omega, by omega⟩, by unfold num; omega⟩
  · have e1 : mo n = 10 := by omega
    rw [e1, if_neg (by omega), Int.add_zero]
    have e2 : len (Y) 10 = 31 := by simp [len]
    have e3 : cum (Y) 10 = 273 + lp Y := by simp [cum, bef]
    exact ⟨⟨by omega, by omega, by omega, by omega⟩, by unfold num; omega⟩
  · have e1 : mo n = 11 := by omega
    rw [e1, if_neg (by omega), Int.add_zero]
    have e2 : len (Y) 11 = 30 := by simp [len]
    have e3 : cum (Y) 11 = 304 + lp Y := by simp [cum, bef]
    exact ⟨⟨by omega, by omega, by omega, by omega⟩, by unfold num; omega⟩
  · have e1 : mo n = 12 := by omega
    rw [e1, if_neg (by omega), Int.add_zero]
    have e2 : len (Y) 12 = 31 := by simp [len]
    have e3 : cum (Y) 12 = 334 + lp Y := by simp [cum, bef]
    exact ⟨⟨by omega, by omega, by omega, by omega⟩, by unfold num; omega⟩
  · have e1 : mo n = 1 := by omega
    rw [e1, if_pos (by omega)]
    have e2 : len (Y + 1) 1 = 31 := by simp [len]
    have e3 : cum (Y + 1) 1 = 0 := by simp [cum, bef]
    exact ⟨⟨by omega, by omega, by omega, by omega⟩, by unfold num; omega⟩
  · have e1 : mo n = 2 := by omega
    rw [e1, if_pos (by omega)]
    have e2 : len (Y + 1) 2 = 28 + lp (Y + 1) := by simp [len]
    have e3 : cum (Y + 1) 2 = 31 := by simp [cum, bef]
    exact ⟨⟨by omega, by omega, by omega, by omega⟩, by unfold num; omega⟩
theorem yr_bd {n : Int} (h1 : -730485719528 ≤ n) (h2 : n ≤ 730484280837) : -2000000000 ≤ yr n ∧ yr n ≤ 2000000000 := by
  have h := date_ok n
  have hy := h.1.year
  rw [h.2] at hy
  have a : first (-2000000000) = -730485719528 := by unfold first; omega
  have b : first 2000000001 = 730484280838 := by unfold first; omega
  constructor
  · by_cases c : -2000000000 ≤ yr n
    · exact c
    · have := first_mono (show yr n + 1 ≤ -2000000000 by omega); omega
  · by_cases c : yr n ≤ 2000000000
    · exact c
    · have := first_mono (show 2000000001 ≤ yr n by omega); omega
theorem num_bd {y m d : Int} (h : Ok y m d) (h1 : -2000000000 ≤ y) (h2 : y ≤ 2000000000) : -730485719528 ≤ num y m d ∧ num y m d ≤ 730484280837 := by
  have hy := h.year
  have a : first (-2000000000) = -730485719528 := by unfold first; omega
  have b : first 2000000001 = 730484280838 := by unfold first; omega
  have := first_mono h1
  have := first_mono (show y + 1 ≤ 2000000001 by omega)
  omega
/-- Each date is found again. -/
theorem date_num {y m d : Int} (h : Ok y m d) : yr (num y m d) = y ∧ mo (num y m d) = m ∧ dy (num y m d) = d := by
  have a := date_ok (num y m d)
  exact num_inj a.1 h a.2
/-- The year of a second. -/
def ysec (t : Int) : Int := if t / 86400 < -730485719528 then -2000000000 else if 730484280837 < t / 86400 then 2000000000 else yr (t / 86400)
theorem yr_lo : yr (-730485719528) = -2000000000 := by decide +kernel
theorem yr_hi : yr 730484280837 = 2000000000 := by decide +kernel
end Go.Proofs.YtljbgkfoljjgbaaDoor.Cal
