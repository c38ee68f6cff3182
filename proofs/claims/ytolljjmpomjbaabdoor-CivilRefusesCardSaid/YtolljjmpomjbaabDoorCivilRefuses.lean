/-
  The walk of CivilRefuses.
-/
import Derived.Test.YtolljjmpomjbaabDoorCivilW
namespace Go.Proofs.YtolljjmpomjbaabDoor
set_option linter.unusedVariables false
set_option linter.unusedSimpArgs false
open Go.RowKit

theorem days_last (w : World) (hT : Tab w) : Calls Tryd.prog 8 #[.int .i64 2000000000, .int .i64 12, .int .i64 31] w fun e w' => e = .returned (.tuple #[.int .i64 730484280837, .int .i64 0]) ∧ ∃ n, w' = w.drewN n := by
  have h := days_ok 2000000000 12 31 w hT (by decide) (by decide) ⟨by decide, by decide, by decide, by decide⟩
  rw [show Cal.num 2000000000 12 31 = 730484280837 by decide] at h
  exact h
theorem days_first (w : World) (hT : Tab w) : Calls Tryd.prog 8 #[.int .i64 (-2000000000), .int .i64 1, .int .i64 1] w fun e w' => e = .returned (.tuple #[.int .i64 (-730485719528), .int .i64 0]) ∧ ∃ n, w' = w.drewN n := by
  have h := days_ok (-2000000000) 1 1 w hT (by decide) (by decide) ⟨by decide, by decide, by decide, by decide⟩
  rw [show Cal.num (-2000000000) 1 1 = -730485719528 by decide] at h
  exact h
theorem len_zero (y m : Int) (w : World) (h : m < 1 ∨ 12 < m) :
    Calls Tryd.prog 9 #[.int .i64 y, .int .i64 m] w fun e w' => e = .returned (.int .i64 0) ∧ w = w' := by
  have k := len_out y m w h
  rw [Cal.len_out h] at k
  exact k

/-- A block of integers. -/
def Cells (B : Nat) (L : List Int) (w : World) : Prop := B < w.heap.size ∧ ∀ i, i < L.length → w.cell? ⟨B, i, none⟩ = some (.int .i64 (L.getD i 0))
theorem Cells.below {B : Nat} {L : List Int} {w w' : World} (h : Cells B L w) (hb : Below w.heap.size w w') : Cells B L w' :=
  ⟨Nat.lt_of_lt_of_le h.1 hb.size, fun i hi => by rw [hb.cell (p := ⟨B, i, none⟩) h.1]; exact h.2 i hi⟩
theorem Cells.new (w : World) (L : List Int) (t : TypeId) : Cells w.heap.size L (w.alloc (.cells (L.map (Value.int .i64)).toArray t)) := by
  refine ⟨by simp, fun i hi => ?_⟩
  rw [World.cell?_alloc_new]
  simp [List.getElem?_eq_getElem hi]

theorem below_drewN {B : Nat} {a w : World} (h : Below B a w) (n : Nat) : Below B a (w.drewN n) := ⟨h.os, h.tape, h.output, h.size, h.block⟩
theorem Cells.new' {B : Nat} {L : List Int} {w : World} {c : Array Value} {t : TypeId} (hB : B = w.heap.size) (hc : c = (L.map (Value.int .i64)).toArray) : Cells B L (w.alloc (.cells c t)) := by
  subst hB; subst hc; exact Cells.new w L t
theorem cells_at {B : Nat} {L : List Int} {w : World} (h : Cells B L w) (i : Nat) (x : Int) (hx : L[i]? = some x) : w.cell? ⟨B, i, none⟩ = some (.int .i64 x) := by
  obtain ⟨hi, rfl⟩ := List.getElem?_eq_some_iff.1 hx
  have := h.2 i hi
  rw [List.getD_eq_getElem?_getD, List.getElem?_eq_getElem hi] at this
  exact this

def refL (far Y : Int) : List Int := [2000000001 + far, 1, 1, -2000000001 - far, 12, 31, Y, 13 + far, 1, Y, -far, 1, Y, 1, 32 + far, Y, 1, -far, 9223372036854775807, 1, 1, -9223372036854775808, 1, 1, Y, 2, 30]

set_option maxRecDepth 100000 in
set_option maxHeartbeats 4000000 in
theorem civilRefuses_walk (far y : Int) (wf : (Lit.int .u32 far).wf = true) (wy : (Lit.int .i64 y).wf = true) (w : World) (hT : Tab w) :
    Calls Tryd.prog 4 #[.int .u32 far, .int .i64 y] w fun e w' => e = .returned (.bool true) ∧ Below w.heap.size w w' := by
  obtain ⟨f1, f2⟩ := bounds_u32 wf
  have hb := tmod_bd y 2000000001 (by decide)
  clear wf wy
  generalize hY : y.tmod 2000000001 = Y at hb
  have L13 : Cal.len Y (13 + far) ≤ 0 := by rw [Cal.len_out (by omega)]; omega
  have L0 : Cal.len Y (-far) ≤ 0 := by rw [Cal.len_out (by omega)]; omega
  have L1 : Cal.len Y 1 ≤ 31 := (Cal.len_bd Y 1).2
  have L2 : Cal.len Y 2 ≤ 29 := by have := Cal.lp_01 Y; simp [Cal.len]; omega
  have hAD : ∀ (w : World) (n : Nat) (o : Obj), (w.drewN n).alloc o = (w.alloc o).drewN n := fun _ _ _ => rfl
  go_enter Tryd.func4, Tryd.ntmps4
  go_wp2_with (first | (go_at_call 8; (with_reducible refine (days_last _ (by repeat (first | exact hT | apply Tab.drewN))).mono ?_); rintro e w' ⟨rfl, k4, rfl⟩) | (go_at_call 8; (with_reducible refine (days_first _ (by repeat (first | exact hT | apply Tab.drewN))).mono ?_); rintro e w' ⟨rfl, k5, rfl⟩))
  refine wp_loop_rounds 5 ?_
  rw [rounds_succ]
  go_wp2_with (go_at_call 6; refine (date_bad _ _ (by omega)).mono ?_; rintro e w' ⟨rfl, rfl⟩)
  rw [rounds_succ]
  go_wp2_with (go_at_call 6; refine (date_bad _ _ (by omega)).mono ?_; rintro e w' ⟨rfl, rfl⟩)
  rw [rounds_succ]
  go_wp2_with (go_at_call 6; refine (date_bad _ _ (by omega)).mono ?_; rintro e w' ⟨rfl, rfl⟩)
  rw [rounds_succ]
  go_wp2_with (go_at_call 6; refine (date_bad _ _ (by omega)).mono ?_; rintro e w' ⟨rfl, rfl⟩)
  rw [rounds_succ]
  go_wp2_with fail
  clear hAD
  go_loopw [107] (fun i wr => ∃ k : Nat, k ≤ 9 ∧ i = .int .i64 k ∧ Cells (w.heap.size + 1) (refL far Y) wr ∧ Tab wr ∧ Below w.heap.size w wr) (fun i _ => 9 - (intOf i).toNat)
  case atStart =>
    refine ⟨0, by omega, rfl, ?_, ?_, ?_⟩
    · exact (Cells.new' (by simp) (by rfl)).below (below_drewN (Below.refl _ _) _)
    · exact ((hT.alloc _).alloc _).drewN _
    · exact below_drewN (((Below.refl _ _).alloc (Nat.le_refl _) _).alloc (by simp) _) _
  case round =>
    obtain ⟨k, hk, rfl, hC, hTr, hB⟩ := hrel
    by_cases h9 : k = 9
    · subst h9
      go_wp2_with (first | (go_at_call 9; refine (len_zero _ _ _ (by omega)).mono ?_; rintro e w' ⟨rfl, rfl⟩) | (go_at_call 7; refine (works_any _ hTr).mono ?_; rintro e w' ⟨rfl, k2, rfl⟩))
      go_ret
      exact ⟨rfl, below_drewN hB _⟩
    · rcases (show k = 0 ∨ k = 1 ∨ k = 2 ∨ k = 3 ∨ k = 4 ∨ k = 5 ∨ k = 6 ∨ k = 7 ∨ k = 8 by omega) with rfl | rfl | rfl | rfl | rfl | rfl | rfl | rfl | rfl
      · have c0 := cells_at hC 0 _ rfl
        have c1 := cells_at hC 1 _ rfl
        have c2 := cells_at hC 2 _ rfl
        go_wp2_with (go_at_call 8; refine (days_bad _ _ _ _ (by repeat (first | exact hTr | apply Tab.alloc | (refine Tab.setCell ?_ (by simp) _))) (by omega)).mono ?_; rintro e w' ⟨rfl, k4, rfl⟩)
        go_roundw
        case rel =>
          refine ⟨1, by omega, rfl, hC.below ?_, hTr.below ?_, hB.trans (Below.mono ?_ hB.size)⟩ <;> repeat (first | exact Below.refl _ _ | refine below_drewN ?_ _ | refine Below.setCell ?_ (by simp) _ | refine Below.alloc ?_ (by simp) _)
        case measure => simp [intOf]
      · have c0 := cells_at hC 3 _ rfl
        have c1 := cells_at hC 4 _ rfl
        have c2 := cells_at hC 5 _ rfl
        go_wp2_with (go_at_call 8; refine (days_bad _ _ _ _ (by repeat (first | exact hTr | apply Tab.alloc | (refine Tab.setCell ?_ (by simp) _))) (by omega)).mono ?_; rintro e w' ⟨rfl, k4, rfl⟩)
        go_roundw
        case rel =>
          refine ⟨2, by omega, rfl, hC.below ?_, hTr.below ?_, hB.trans (Below.mono ?_ hB.size)⟩ <;> repeat (first | exact Below.refl _ _ | refine below_drewN ?_ _ | refine Below.setCell ?_ (by simp) _ | refine Below.alloc ?_ (by simp) _)
        case measure => simp [intOf]
      · have c0 := cells_at hC 6 _ rfl
        have c1 := cells_at hC 7 _ rfl
        have c2 := cells_at hC 8 _ rfl
        go_wp2_with (go_at_call 8; refine (days_bad _ _ _ _ (by repeat (first | exact hTr | apply Tab.alloc | (refine Tab.setCell ?_ (by simp) _))) (by omega)).mono ?_; rintro e w' ⟨rfl, k4, rfl⟩)
        go_roundw
        case rel =>
          refine ⟨3, by omega, rfl, hC.below ?_, hTr.below ?_, hB.trans (Below.mono ?_ hB.size)⟩ <;> repeat (first | exact Below.refl _ _ | refine below_drewN ?_ _ | refine Below.setCell ?_ (by simp) _ | refine Below.alloc ?_ (by simp) _)
        case measure => simp [intOf]
      · have c0 := cells_at hC 9 _ rfl
        have c1 := cells_at hC 10 _ rfl
        have c2 := cells_at hC 11 _ rfl
        go_wp2_with (go_at_call 8; refine (days_bad _ _ _ _ (by repeat (first | exact hTr | apply Tab.alloc | (refine Tab.setCell ?_ (by simp) _))) (by omega)).mono ?_; rintro e w' ⟨rfl, k4, rfl⟩)
        go_roundw
        case rel =>
          refine ⟨4, by omega, rfl, hC.below ?_, hTr.below ?_, hB.trans (Below.mono ?_ hB.size)⟩ <;> repeat (first | exact Below.refl _ _ | refine below_drewN ?_ _ | refine Below.setCell ?_ (by simp) _ | refine Below.alloc ?_ (by simp) _)
        case measure => simp [intOf]
      · have c0 := cells_at hC 12 _ rfl
        have c1 := cells_at hC 13 _ rfl
        have c2 := cells_at hC 14 _ rfl
        go_wp2_with (go_at_call 8; refine (days_bad _ _ _ _ (by repeat (first | exact hTr | apply Tab.alloc | (refine Tab.setCell ?_ (by simp) _))) (by omega)).mono ?_; rintro e w' ⟨rfl, k4, rfl⟩)
        go_roundw
        case rel =>
          refine ⟨5, by omega, rfl, hC.below ?_, hTr.below ?_, hB.trans (Below.mono ?_ hB.size)⟩ <;> repeat (first | exact Below.refl _ _ | refine below_drewN ?_ _ | refine Below.setCell ?_ (by simp) _ | refine Below.alloc ?_ (by simp) _)
        case measure => simp [intOf]
      · have c0 := cells_at hC 15 _ rfl
        have c1 := cells_at hC 16 _ rfl
        have c2 := cells_at hC 17 _ rfl
        go_wp2_with (go_at_call 8; refine (days_bad _ _ _ _ (by repeat (first | exact hTr | apply Tab.alloc | (refine Tab.setCell ?_ (by simp) _))) (by omega)).mono ?_; rintro e w' ⟨rfl, k4, rfl⟩)
        go_roundw
        case rel =>
          refine ⟨6, by omega, rfl, hC.below ?_, hTr.below ?_, hB.trans (Below.mono ?_ hB.size)⟩ <;> repeat (first | exact Below.refl _ _ | refine below_drewN ?_ _ | refine Below.setCell ?_ (by simp) _ | refine Below.alloc ?_ (by simp) _)
        case measure => simp [intOf]
      · have c0 := cells_at hC 18 _ rfl
        have c1 := cells_at hC 19 _ rfl
        have c2 := cells_at hC 20 _ rfl
        go_wp2_with (go_at_call 8; refine (days_bad _ _ _ _ (by repeat (first | exact hTr | apply Tab.alloc | (refine Tab.setCell ?_ (by simp) _))) (by omega)).mono ?_; rintro e w' ⟨rfl, k4, rfl⟩)
        go_roundw
        case rel =>
          refine ⟨7, by omega, rfl, hC.below ?_, hTr.below ?_, hB.trans (Below.mono ?_ hB.size)⟩ <;> repeat (first | exact Below.refl _ _ | refine below_drewN ?_ _ | refine Below.setCell ?_ (by simp) _ | refine Below.alloc ?_ (by simp) _)
        case measure => simp [intOf]
      · have c0 := cells_at hC 21 _ rfl
        have c1 := cells_at hC 22 _ rfl
        have c2 := cells_at hC 23 _ rfl
        go_wp2_with (go_at_call 8; refine (days_bad _ _ _ _ (by repeat (first | exact hTr | apply Tab.alloc | (refine Tab.setCell ?_ (by simp) _))) (by omega)).mono ?_; rintro e w' ⟨rfl, k4, rfl⟩)
        go_roundw
        case rel =>
          refine ⟨8, by omega, rfl, hC.below ?_, hTr.below ?_, hB.trans (Below.mono ?_ hB.size)⟩ <;> repeat (first | exact Below.refl _ _ | refine below_drewN ?_ _ | refine Below.setCell ?_ (by simp) _ | refine Below.alloc ?_ (by simp) _)
        case measure => simp [intOf]
      · have c0 := cells_at hC 24 _ rfl
        have c1 := cells_at hC 25 _ rfl
        have c2 := cells_at hC 26 _ rfl
        go_wp2_with (go_at_call 8; refine (days_bad _ _ _ _ (by repeat (first | exact hTr | apply Tab.alloc | (refine Tab.setCell ?_ (by simp) _))) (by omega)).mono ?_; rintro e w' ⟨rfl, k4, rfl⟩)
        go_roundw
        case rel =>
          refine ⟨9, by omega, rfl, hC.below ?_, hTr.below ?_, hB.trans (Below.mono ?_ hB.size)⟩ <;> repeat (first | exact Below.refl _ _ | refine below_drewN ?_ _ | refine Below.setCell ?_ (by simp) _ | refine Below.alloc ?_ (by simp) _)
        case measure => simp [intOf]
end Go.Proofs.YtolljjmpomjbaabDoor
