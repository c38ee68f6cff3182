/-
  Plain mathematics of day forms: which day of a month a form means.
-/
import Derived.Test.YtljbgkfoljjgbaaDoorCal
namespace Go.Proofs.YtljbgkfoljjgbaaDoor.Day
open Go.Proofs.YtljbgkfoljjgbaaDoor

def wd (n : Int) : Int := (n + 4) % 7
/-- A form that there is. -/
def okB (k w d : Int) : Bool := decide ((k = 1 ∧ w = 0 ∧ 1 ≤ d ∧ d ≤ 31) ∨ (k = 2 ∧ 0 ≤ w ∧ w ≤ 6 ∧ d = 0) ∨ ((k = 3 ∨ k = 4) ∧ 0 ≤ w ∧ w ≤ 6 ∧ 1 ≤ d ∧ d ≤ 31))
theorem okB_iff (k w d : Int) : okB k w d = true ↔ ((k = 1 ∧ w = 0 ∧ 1 ≤ d ∧ d ≤ 31) ∨ (k = 2 ∧ 0 ≤ w ∧ w ≤ 6 ∧ d = 0) ∨ ((k = 3 ∨ k = 4) ∧ 0 ≤ w ∧ w ≤ 6 ∧ 1 ≤ d ∧ d ≤ 31)) := by simp [okB]
/-- How many days the last weekday w is behind a day. -/
def back (w n : Int) : Int := (wd n - w + 7) % 7
/-- The day, from the first and the last day of the month. -/
def on (k w d f l : Int) : Int := if k = 1 then f + d - 1 else if k = 2 then l - back w l else if k = 3 then f + d - 1 + 6 - back w (f + d - 1 + 6) else f + d - 1 - back w (f + d - 1)
def inB (y m : Int) : Bool := decide (-2000000000 ≤ y ∧ y ≤ 2000000000 ∧ 1 ≤ m ∧ m ≤ 12)
theorem inB_iff (y m : Int) : inB y m = true ↔ (-2000000000 ≤ y ∧ y ≤ 2000000000 ∧ 1 ≤ m ∧ m ≤ 12) := by simp [inB]
def fst (y m : Int) : Int := Cal.num y m 1
def lst (y m : Int) : Int := fst y m + Cal.len y m - 1
/-- The error code, and the day. -/
def onE (y m k w d : Int) : Int := if inB y m = false then 3 else if okB k w d = false then 2 else if Cal.len y m < d then 4 else 0
def onV (y m k w d : Int) : Int := if onE y m k w d = 0 then on k w d (fst y m) (lst y m) else 0
theorem onE_range {y m k w d : Int} (h : inB y m = false) : onE y m k w d = 3 := by simp [onE, h]
theorem onE_arg {y m k w d : Int} (h : inB y m = true) (h2 : okB k w d = false) : onE y m k w d = 2 := by simp [onE, h, h2]
theorem onE_none {y m k w d : Int} (h : inB y m = true) (h2 : okB k w d = true) (h3 : Cal.len y m < d) : onE y m k w d = 4 := by simp [onE, h, h2, h3]
theorem onE_ok {y m k w d : Int} (h : inB y m = true) (h2 : okB k w d = true) (h3 : ¬ Cal.len y m < d) : onE y m k w d = 0 := by simp [onE, h, h2, h3]
theorem onV_ok {y m k w d : Int} (h : onE y m k w d = 0) : onV y m k w d = on k w d (fst y m) (lst y m) := by simp [onV, h]
theorem onV_bad {y m k w d : Int} (h : onE y m k w d ≠ 0) : onV y m k w d = 0 := by simp [onV, h]
theorem back_bd (w n : Int) : 0 ≤ back w n ∧ back w n ≤ 6 := by unfold back; omega
theorem back_wd {w n : Int} (h : 0 ≤ w ∧ w ≤ 6) : wd (n - back w n) = w := by unfold back wd; omega
theorem fst_bd {y m : Int} (h : inB y m = true) : -730485719528 ≤ fst y m ∧ fst y m ≤ 730484280837 := by
  rw [inB_iff] at h
  have l := Cal.len_in (y := y) h.2.2.1 h.2.2.2
  exact Cal.num_bd ⟨h.2.2.1, h.2.2.2, by omega, by omega⟩ h.1 h.2.1
theorem onV_bd (y m k w d : Int) : -730485719600 ≤ onV y m k w d ∧ onV y m k w d ≤ 730484280900 := by
  by_cases h : onE y m k w d = 0
  · rw [onV_ok h]
    have hi : inB y m = true := by
      cases hb : inB y m
      · rw [onE_range hb] at h; omega
      · rfl
    have ho : okB k w d = true := by
      cases hb : okB k w d
      · rw [onE_arg hi hb] at h; omega
      · rfl
    have hb := fst_bd hi
    rw [inB_iff] at hi
    rw [okB_iff] at ho
    have l := Cal.len_in (y := y) hi.2.2.1 hi.2.2.2
    unfold on lst
    have b1 := back_bd w (fst y m + Cal.len y m - 1)
    have b2 := back_bd w (fst y m + d - 1 + 6)
    have b3 := back_bd w (fst y m + d - 1)
    split
    · omega
    · split
      · omega
      · split <;> omega
  · rw [onV_bad h]; omega
/-- Whether there is such a day in each year from a to b. -/
def alw (a b m k w d : Int) : Bool := decide (1 ≤ m ∧ m ≤ 12) && okB k w d && (decide (d ≤ Cal.len 2023 m) || decide (b < a ∧ b < 1048576) || decide (m = 2 ∧ d = 29 ∧ b < 1048576 ∧ a = b) && Cal.lpB a)
end Go.Proofs.YtljbgkfoljjgbaaDoor.Day
