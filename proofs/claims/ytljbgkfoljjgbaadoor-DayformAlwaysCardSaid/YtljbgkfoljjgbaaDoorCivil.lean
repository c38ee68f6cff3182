/-
  Package civil: what each function computes.
-/
import Derived.Test.YtljbgkfoljjgbaaDoorRows
import Derived.Test.YtljbgkfoljjgbaaDoorCal
import Derived.WalkKit
import Derived.WalkSpells
import Derived.WalkLawsBesides
import Derived.Outline
import Derived.OpenShut
import Derived.IntWalk
import Derived.Lib.Hide
import Derived.Deep.QuietTactic
import Derived.BigQuiet
namespace Go.Proofs.YtljbgkfoljjgbaaDoor
set_option linter.unusedVariables false
set_option linter.unusedSimpArgs false
open Go.RowKit

theorem ret_int {k : IntKind} {a b : Int} (h : a = b) : Ending.returned (.int k a) = .returned (.int k b) := by rw [h]
theorem ret_bool {a b : Bool} (h : a = b) : Ending.returned (.bool a) = .returned (.bool b) := by rw [h]

theorem tmod_bd (n b : Int) (hb : 0 < b) : -b < n.tmod b ∧ n.tmod b < b := by
  have := Int.tmod_lt_of_pos n hb
  have := Int.lt_tmod_of_pos n hb
  omega

theorem beq_t {a b : Int} (h : a = b) : (a == b) = true := by simp [h]

/-! ## whole quotients -/
theorem fl_neg (a b : Int) (hb : 1 ≤ b) (hr : a.tmod b < 0) : a.tdiv b = a / b + 1 := by
  have hs : b.sign = 1 := Int.sign_eq_one_of_pos (by omega)
  rw [Int.tdiv_eq_ediv]
  rw [Int.tmod_eq_emod] at hr
  have := Int.emod_nonneg a (show b ≠ 0 by omega)
  split at hr
  · omega
  · rw [if_neg ‹_›, hs]
theorem fl_zero (a b : Int) (hb : 1 ≤ b) (hr : ¬ a.tmod b < 0) : a.tdiv b = a / b := by
  rw [Int.tdiv_eq_ediv]
  rw [Int.tmod_eq_emod] at hr
  have := Int.emod_lt_of_pos a (show 0 < b by omega)
  split at hr
  · rw [if_pos ‹_›]; simp
  · exfalso
    have : ((b.natAbs : Nat) : Int) = b := by omega
    omega
theorem ediv_bd (a b : Int) (hb : 1 ≤ b) (ha : -9223372036854775808 ≤ a) (ha' : a ≤ 9223372036854775807) : -9223372036854775808 ≤ a / b ∧ a / b ≤ 9223372036854775807 := by
  constructor
  · exact (Int.le_ediv_iff_mul_le (by omega)).2 (Int.le_trans (Int.mul_le_mul_of_nonpos_left (by omega) hb) (by omega))
  · by_cases h : 0 ≤ a
    · have := Int.ediv_le_self b h; omega
    · have := Int.ediv_neg_of_neg_of_pos (show a < 0 by omega) (show 0 < b by omega); omega

set_option maxHeartbeats 400000 in
theorem floor_any (a b : Int) (w : World) (ha : -9223372036854775808 ≤ a) (ha' : a ≤ 9223372036854775807) (hb : 1 ≤ b) (hb' : b ≤ 9223372036854775807) :
    Calls Tryd.prog 34 #[.int .i64 a, .int .i64 b] w fun e w' => e = .returned (.int .i64 (a / b)) ∧ w = w' := by
  have hbd := ediv_bd a b hb ha ha'
  by_cases hr : a.tmod b < 0
  · have e := fl_neg a b hb hr
    have H := Lib.hid (show a.tdiv b - 1 = a / b by omega)
    have e1 : -9223372036854775808 ≤ a.tdiv b - 1 := by omega
    have e2 : a.tdiv b - 1 ≤ 9223372036854775807 := by omega
    clear e hbd
    go_enter Tryd.func34, Tryd.ntmps34
    go_wp2
    go_ret
    exact ⟨ret_int H.out, rfl⟩
  · have H := Lib.hid (fl_zero a b hb hr)
    clear hbd
    go_enter Tryd.func34, Tryd.ntmps34
    go_wp2
    go_ret
    exact ⟨ret_int H.out, rfl⟩

/-! ## the table -/
def befL : List Int := [0, 31, 59, 90, 120, 151, 181, 212, 243, 273, 304, 334, 365]
/-- The table of package civil holds what its initialiser lays. -/
def Tab (w : World) : Prop := ∀ i, i < 13 → w.cell? ⟨0, i, none⟩ = some (.int .i64 (befL.getD i 0))

theorem tmod_zero (a b : Int) : (a.tmod b == 0) = (a % b == 0) := by
  rw [Bool.eq_iff_iff]; simp only [beq_iff_eq]
  rw [← Int.dvd_iff_tmod_eq_zero, ← Int.dvd_iff_emod_eq_zero]

set_option maxHeartbeats 400000 in
theorem leap_any (y : Int) (w : World) :
    Calls Tryd.prog 32 #[.int .i64 y] w fun e w' => e = .returned (.bool (Cal.lpB y)) ∧ w = w' := by
  by_cases h4 : y % 4 = 0
  · by_cases h100 : y % 100 = 0
    · by_cases h400 : y % 400 = 0
      · have H := Lib.hid (show Cal.lpB y = true by rw [Cal.lpB_iff]; omega)
        have t4 : (y.tmod 4 == 0) = true := by rw [tmod_zero]; simpa using h4
        have t100 : (y.tmod 100 != 0) = false := by rw [bne, tmod_zero]; simpa using h100
        have t400 : (y.tmod 400 == 0) = true := by rw [tmod_zero]; simpa using h400
        clear h4 h100 h400
        go_enter Tryd.func32, Tryd.ntmps32
        go_wp2
        go_ret
        exact ⟨ret_bool (by rw [H.out]), rfl⟩
      · have H := Lib.hid (show Cal.lpB y = false by rw [Bool.eq_false_iff, Ne, Cal.lpB_iff]; omega)
        have t4 : (y.tmod 4 == 0) = true := by rw [tmod_zero]; simpa using h4
        have t100 : (y.tmod 100 != 0) = false := by rw [bne, tmod_zero]; simpa using h100
        have t400 : (y.tmod 400 == 0) = false := by rw [tmod_zero]; simpa using h400
        clear h4 h100 h400
        go_enter Tryd.func32, Tryd.ntmps32
        go_wp2
        go_ret
        exact ⟨ret_bool (by rw [H.out]), rfl⟩
    · have H := Lib.hid (show Cal.lpB y = true by rw [Cal.lpB_iff]; omega)
      have t4 : (y.tmod 4 == 0) = true := by rw [tmod_zero]; simpa using h4
      have t100 : (y.tmod 100 != 0) = true := by rw [bne, tmod_zero]; simpa using h100
      clear h4 h100
      go_enter Tryd.func32, Tryd.ntmps32
      go_wp2
      go_ret
      exact ⟨ret_bool (by rw [H.out]), rfl⟩
  · have H := Lib.hid (show Cal.lpB y = false by rw [Bool.eq_false_iff, Ne, Cal.lpB_iff]; omega)
    have t4 : (y.tmod 4 == 0) = false := by rw [tmod_zero]; simpa using h4
    clear h4
    go_enter Tryd.func32, Tryd.ntmps32
    go_wp2
    go_ret
    exact ⟨ret_bool (by rw [H.out]), rfl⟩

set_option maxHeartbeats 400000 in
theorem len_out (y m : Int) (w : World) (h : m < 1 ∨ 12 < m) :
    Calls Tryd.prog 19 #[.int .i64 y, .int .i64 m] w fun e w' => e = .returned (.int .i64 (Cal.len y m)) ∧ w = w' := by
  have H := Lib.hid (Cal.len_out (y := y) h)
  rcases h with h | h
  · go_enter Tryd.func19, Tryd.ntmps19
    go_wp2
    go_ret
    exact ⟨ret_int H.out.symm, rfl⟩
  · have h' : 1 ≤ m := by omega
    go_enter Tryd.func19, Tryd.ntmps19
    go_wp2
    go_ret
    exact ⟨ret_int H.out.symm, rfl⟩


set_option maxHeartbeats 1000000 in
theorem len_in (y m : Int) (w : World) (hT : Tab w) (h1 : 1 ≤ m) (h2 : m ≤ 12) :
    Calls Tryd.prog 19 #[.int .i64 y, .int .i64 m] w fun e w' => e = .returned (.int .i64 (Cal.len y m)) ∧ ∃ n, w' = w.drewN n := by
  have c1 := hT (m - 1).toNat (by omega)
  have c2 := hT m.toNat (by omega)
  clear hT
  rcases Cal.m12 h1 h2 with rfl | rfl | rfl | rfl | rfl | rfl | rfl | rfl | rfl | rfl | rfl | rfl
  case inr.inl =>
    simp [befL] at c1 c2
    have l01 := Cal.lp_01 y
    by_cases hl : Cal.lpB y = true
    · have H := Lib.hid (Cal.lp_yes hl)
      have HL := Lib.hid hl
      clear l01 hl
      go_enter Tryd.func19, Tryd.ntmps19
      go_wp2
      go_quiet (fail)
      go_wp2_with (go_at_call 32; refine (leap_any _ _).mono ?_; rintro e w' ⟨rfl, rfl⟩; rw [HL.out])
      go_ret
      exact ⟨ret_int (by simp [Cal.len, H.out]), ⟨_, rfl⟩⟩
    · have hl : Cal.lpB y = false := by simpa using hl
      have H := Lib.hid (Cal.lp_no hl)
      have HL := Lib.hid hl
      clear l01 hl
      go_enter Tryd.func19, Tryd.ntmps19
      go_wp2
      go_quiet (fail)
      go_wp2_with (go_at_call 32; refine (leap_any _ _).mono ?_; rintro e w' ⟨rfl, rfl⟩; rw [HL.out])
      go_ret
      exact ⟨ret_int (by simp [Cal.len, H.out]), ⟨_, rfl⟩⟩
  all_goals
    simp [befL] at c1 c2
    go_enter Tryd.func19, Tryd.ntmps19
    go_wp2
    go_quiet (fail)
    go_wp2
    go_ret
    exact ⟨ret_int (by simp [Cal.len]), ⟨_, rfl⟩⟩

theorem len_any (y m : Int) (w : World) (hT : Tab w) :
    Calls Tryd.prog 19 #[.int .i64 y, .int .i64 m] w fun e w' => e = .returned (.int .i64 (Cal.len y m)) ∧ ∃ n, w' = w.drewN n := by
  by_cases h : 1 ≤ m ∧ m ≤ 12
  · exact len_in y m w hT h.1 h.2
  · exact (len_out y m w (by omega)).mono fun _ _ ⟨he, hw⟩ => ⟨he, 0, hw.symm⟩

theorem Tab.drewN {w : World} (h : Tab w) (n : Nat) : Tab (w.drewN n) := fun i hi => h i hi
theorem Tab.below {w w' : World} (h : Tab w) (hb : Below w.heap.size w w') : Tab w' := fun i hi => by
  have hc := h i hi
  have hs : 0 < w.heap.size := by
    rcases Nat.lt_or_ge 0 w.heap.size with h | h
    · exact h
    · exfalso
      unfold World.cell? at hc
      have e : w.heap[0]? = none := Array.getElem?_eq_none h
      simp [e] at hc
  rw [hb.cell (p := ⟨0, i, none⟩) hs]; exact hc

theorem Tab.drew {w : World} (h : Tab w) : Tab w.drew := fun i hi => h i hi
theorem Tab.alloc {w : World} (h : Tab w) (o : Obj) : Tab (w.alloc o) := h.below ((Below.refl _ _).alloc (Nat.le_refl _) o)
theorem Tab.setCell {w : World} (h : Tab w) {p : Addr} (hp : w.heap.size ≤ p.block) (u : Value) : Tab (w.setCell p u) := h.below ((Below.refl _ _).setCell hp u)

theorem bef_tab {m : Int} (k : Nat) (e : m = k + 1) (h : k < 12) : befL.getD k 0 = Cal.bef m := by
  subst e
  rcases (show k = 0 ∨ k = 1 ∨ k = 2 ∨ k = 3 ∨ k = 4 ∨ k = 5 ∨ k = 6 ∨ k = 7 ∨ k = 8 ∨ k = 9 ∨ k = 10 ∨ k = 11 by omega) with rfl | rfl | rfl | rfl | rfl | rfl | rfl | rfl | rfl | rfl | rfl | rfl <;> rfl
theorem bef_bd {m : Int} (h1 : 1 ≤ m) (h2 : m ≤ 12) : 0 ≤ Cal.bef m ∧ Cal.bef m ≤ 334 := by
  rcases Cal.m12 h1 h2 with rfl | rfl | rfl | rfl | rfl | rfl | rfl | rfl | rfl | rfl | rfl | rfl <;> decide

theorem ret_pair {a b c d : Int} {j k : IntKind} (h : a = c) (h' : b = d) : Ending.returned (.tuple #[.int j a, .int k b]) = .returned (.tuple #[.int j c, .int k d]) := by rw [h, h']

end Go.Proofs.YtljbgkfoljjgbaaDoor
