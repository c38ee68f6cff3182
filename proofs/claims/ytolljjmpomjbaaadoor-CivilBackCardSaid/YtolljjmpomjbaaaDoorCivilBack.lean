/-
  The walk of CivilBack.
-/
import Derived.Test.YtolljjmpomjbaaaDoorCivilW
namespace Go.Proofs.YtolljjmpomjbaaaDoor
set_option linter.unusedVariables false
set_option linter.unusedSimpArgs false
open Go.RowKit

set_option maxRecDepth 100000 in
set_option maxHeartbeats 1000000 in
theorem civilBack_walk (n y m d : Int) (_ : (Lit.int .i64 n).wf = true) (_ : (Lit.int .i64 y).wf = true) (wm : (Lit.int .u8 m).wf = true) (wd : (Lit.int .u8 d).wf = true) (w : World) (hT : Tab w) :
    Calls Tryd.prog 5 #[.int .i64 n, .int .i64 y, .int .u8 m, .int .u8 d] w fun e w' => e = .returned (.bool true) ∧ Grown w w' := by
  have bm := bounds_u8 wm
  have bd := bounds_u8 wd
  have hb := tmod_bd n 700000000000 (by decide)
  have hb2 := tmod_bd y 2000000001 (by decide)
  clear wm wd
  generalize hN : n.tmod 700000000000 = N at hb
  generalize hY : y.tmod 2000000001 = Y at hb2
  have ok := Cal.date_ok N
  have d1 := ok.1.d1
  have d2 := ok.1.d2
  clear ok
  have hM : ∃ M : Int, m % 14 = M ∧ 0 ≤ M ∧ M ≤ 13 := ⟨_, rfl, by omega, by omega⟩
  have hD : ∃ D : Int, d % 34 = D ∧ 0 ≤ D ∧ D ≤ 33 := ⟨_, rfl, by omega, by omega⟩
  obtain ⟨M, hM, M1, M2⟩ := hM
  obtain ⟨D, hD, D1, D2⟩ := hD
  by_cases e1 : 1 ≤ D
  · by_cases e2 : D ≤ Cal.len Y M
    · have hm := Cal.len_month (y := Y) (m := M) (by omega)
      have hok := Lib.hid (show Cal.Ok Y M D from ⟨hm.1, hm.2, e1, e2⟩)
      go_enter Tryd.func5, Tryd.ntmps5
      go_wp2_with (first | (go_at_call 16; refine (date_in _ _ (by omega) (by omega)).mono ?_; rintro e w' ⟨rfl, rfl⟩) | (go_at_call 9; (with_reducible refine (days_date N _ (by omega) (by omega) (by first | exact hT | exact hT.drewN _)).mono ?_); rintro e w' ⟨rfl, k3, rfl⟩) | (go_at_call 9; (with_reducible refine (days_ok Y M D _ (by first | exact hT | exact hT.drewN _) (by omega) (by omega) hok.out).mono ?_); rintro e w' ⟨rfl, k4, rfl⟩) | (go_at_call 16; (with_reducible refine (date_days Y M D _ (by omega) (by omega) hok.out).mono ?_); rintro e w' ⟨rfl, rfl⟩) | (go_at_call 13; refine (len_any _ _ _ (by first | exact hT | exact hT.drewN _)).mono ?_; rintro e w' ⟨rfl, k1, rfl⟩) | (go_at_call 15; refine (works_any _ (by first | exact hT | exact hT.drewN _)).mono ?_; rintro e w' ⟨rfl, k2, rfl⟩))
      go_ret
      exact ⟨rfl, Grown.refl _⟩
    · have e2' : Cal.len Y M < D := by omega
      clear e2
      go_enter Tryd.func5, Tryd.ntmps5
      go_wp2_with (first | (go_at_call 16; refine (date_in _ _ (by omega) (by omega)).mono ?_; rintro e w' ⟨rfl, rfl⟩) | (go_at_call 9; (with_reducible refine (days_date N _ (by omega) (by omega) (by first | exact hT | exact hT.drewN _)).mono ?_); rintro e w' ⟨rfl, k3, rfl⟩) | (go_at_call 9; (with_reducible refine (days_bad Y M D _ (by first | exact hT | exact hT.drewN _) (by omega)).mono ?_); rintro e w' ⟨rfl, k4, rfl⟩) | (go_at_call 13; refine (len_any _ _ _ (by first | exact hT | exact hT.drewN _)).mono ?_; rintro e w' ⟨rfl, k1, rfl⟩) | (go_at_call 15; refine (works_any _ (by first | exact hT | exact hT.drewN _)).mono ?_; rintro e w' ⟨rfl, k2, rfl⟩))
      go_ret
      exact ⟨rfl, Grown.refl _⟩
  · have e1' : D < 1 := by omega
    clear e1
    go_enter Tryd.func5, Tryd.ntmps5
    go_wp2_with (first | (go_at_call 16; refine (date_in _ _ (by omega) (by omega)).mono ?_; rintro e w' ⟨rfl, rfl⟩) | (go_at_call 9; (with_reducible refine (days_date N _ (by omega) (by omega) (by first | exact hT | exact hT.drewN _)).mono ?_); rintro e w' ⟨rfl, k3, rfl⟩) | (go_at_call 9; (with_reducible refine (days_bad Y M D _ (by first | exact hT | exact hT.drewN _) (by omega)).mono ?_); rintro e w' ⟨rfl, k4, rfl⟩) | (go_at_call 13; refine (len_any _ _ _ (by first | exact hT | exact hT.drewN _)).mono ?_; rintro e w' ⟨rfl, k1, rfl⟩) | (go_at_call 15; refine (works_any _ (by first | exact hT | exact hT.drewN _)).mono ?_; rintro e w' ⟨rfl, k2, rfl⟩))
    go_ret
    exact ⟨rfl, Grown.refl _⟩
end Go.Proofs.YtolljjmpomjbaaaDoor
