/-
  The walk of DayformAlways.
-/
import Derived.Test.YtljbgkfoljjgbaaDoorDayR2
import Derived.Deep.RegionHeld3
namespace Go.Proofs.YtljbgkfoljjgbaaDoor
set_option linter.unusedVariables false
set_option linter.unusedSimpArgs false
open Go.RowKit

set_option maxRecDepth 100000 in
set_option maxHeartbeats 2000000 in
theorem dayformAlways_walk (x y m k a d : Int) (_ : (Lit.int .i64 x).wf = true) (_ : (Lit.int .i64 y).wf = true) (_ : (Lit.int .i64 m).wf = true) (_ : (Lit.int .i64 k).wf = true) (_ : (Lit.int .i64 a).wf = true) (_ : (Lit.int .i64 d).wf = true) (w : World) (hT : Tab w) :
    Calls Tryd.prog 4 #[.int .i64 x, .int .i64 y, .int .i64 m, .agg #[.int .i64 k, .int .i64 a, .int .i64 d]] w fun e w' => e = .returned (.bool true) ∧ Below w.heap.size w w' := by
  go_enter Tryd.func4, Tryd.ntmps4
  go_wp2_with fail
  go_region_held3 (fun w' => w'.cell? ⟨w.heap.size, 0, none⟩ = some (.int .i64 k) ∧ w'.cell? ⟨w.heap.size, 1, none⟩ = some (.int .i64 a) ∧ w'.cell? ⟨w.heap.size, 2, none⟩ = some (.int .i64 d) ∧ Tab w' ∧ Below w.heap.size w w' ∧ w.heap.size < w'.heap.size) (first | exact ⟨k0, k1, k2, kT, kB, hz1⟩ | exact ⟨by simp [*], by simp [*], by simp [*], (hT.alloc _).drew, ((Below.refl _ _).alloc (Nat.le_refl _) _).drew, by simp⟩ | go_keep) (first | (go_at_call 14; refine (always_any x y m k a d _ (by first | (simp [*]; done) | assumption)).mono ?_; rintro e w1 ⟨rfl, hb⟩; have hz1 : w.heap.size < w1.heap.size := (by have := hb.size; omega); have k0 := (hb.cell (p := ⟨w.heap.size, 0, none⟩) (by show w.heap.size < _; omega)).trans (show _ = some (.int .i64 k) by simp [*]); have k1 := (hb.cell (p := ⟨w.heap.size, 1, none⟩) (by show w.heap.size < _; omega)).trans (show _ = some (.int .i64 a) by simp [*]); have k2 := (hb.cell (p := ⟨w.heap.size, 2, none⟩) (by show w.heap.size < _; omega)).trans (show _ = some (.int .i64 d) by simp [*]); have kT : Tab w1 := Tab.below (by first | assumption | (simp [*]; done)) hb; have kB : Below w.heap.size w w1 := below_then (w := w) (by first | assumption | (simp [*]; done)) hb) | (go_at_call 15; refine (ralways_any x y m k a d _).mono ?_; rintro e w1 ⟨rfl, hb⟩; have hz1 : w.heap.size < w1.heap.size := (by have := hb.size; omega); have k0 := (hb.cell (p := ⟨w.heap.size, 0, none⟩) (by show w.heap.size < _; omega)).trans (show _ = some (.int .i64 k) by simp [*]); have k1 := (hb.cell (p := ⟨w.heap.size, 1, none⟩) (by show w.heap.size < _; omega)).trans (show _ = some (.int .i64 a) by simp [*]); have k2 := (hb.cell (p := ⟨w.heap.size, 2, none⟩) (by show w.heap.size < _; omega)).trans (show _ = some (.int .i64 d) by simp [*]); have kT : Tab w1 := Tab.below (by first | assumption | (simp [*]; done)) hb; have kB : Below w.heap.size w w1 := below_then (w := w) (by first | assumption | (simp [*]; done)) hb) | (go_at_call 13; refine (works_any _ (by first | (simp [*]; done) | assumption)).mono ?_; rintro e w1 ⟨rfl, hb⟩; have hz1 : w.heap.size < w1.heap.size := (by have := hb.size; omega); have k0 := (hb.cell (p := ⟨w.heap.size, 0, none⟩) (by show w.heap.size < _; omega)).trans (show _ = some (.int .i64 k) by simp [*]); have k1 := (hb.cell (p := ⟨w.heap.size, 1, none⟩) (by show w.heap.size < _; omega)).trans (show _ = some (.int .i64 a) by simp [*]); have k2 := (hb.cell (p := ⟨w.heap.size, 2, none⟩) (by show w.heap.size < _; omega)).trans (show _ = some (.int .i64 d) by simp [*]); have kT : Tab w1 := Tab.below (by first | assumption | (simp [*]; done)) hb; have kB : Below w.heap.size w w1 := below_then (w := w) (by first | assumption | (simp [*]; done)) hb))
  all_goals go_wp2
  all_goals go_ret
  all_goals exact ⟨rfl, by first | (simp [*]; done) | (repeat (first | exact HB.out | exact Below.refl _ _ | refine below_drewN ?_ _ | apply Below.drew | (refine (fun h1 h2 => Below.setCell h2 h1 _) ?_ ?_; (· first | (simp; done) | (simp; omega) | (have := HB.out.size; simp; omega) | (have := HB.out.size; omega))) | (refine (fun h1 h2 => Below.alloc h2 h1 _) ?_ ?_; (· first | (simp; done) | (simp; omega) | (have := HB.out.size; simp; omega) | (have := HB.out.size; omega)))))⟩
end Go.Proofs.YtljbgkfoljjgbaaDoor
