/-
  The walk of CivilNext.
-/
import Derived.Test.YtolljjmpomjbaaaDoorCivilW
namespace Go.Proofs.YtolljjmpomjbaaaDoor
set_option linter.unusedVariables false
set_option linter.unusedSimpArgs false
open Go.RowKit

theorem next_a {n : Int} (h : Cal.dy n < Cal.len (Cal.yr n) (Cal.mo n)) : Cal.yr (n + 1) = Cal.yr n ∧ Cal.mo (n + 1) = Cal.mo n ∧ Cal.dy (n + 1) = Cal.dy n + 1 := by
  have a := Cal.date_ok n
  have b := Cal.date_ok (n + 1)
  have c : Cal.Ok (Cal.yr n) (Cal.mo n) (Cal.dy n + 1) := ⟨a.1.m1, a.1.m2, by have := a.1.d1; omega, by omega⟩
  exact Cal.num_inj b.1 c (by rw [b.2]; have := a.2; unfold Cal.num at this ⊢; omega)
theorem next_b {n : Int} (h : ¬ Cal.dy n < Cal.len (Cal.yr n) (Cal.mo n)) (hm : Cal.mo n < 12) : Cal.yr (n + 1) = Cal.yr n ∧ Cal.mo (n + 1) = Cal.mo n + 1 ∧ Cal.dy (n + 1) = 1 := by
  have a := Cal.date_ok n
  have b := Cal.date_ok (n + 1)
  have l := Cal.len_in (y := Cal.yr n) (m := Cal.mo n + 1) (by have := a.1.m1; omega) (by omega)
  have c : Cal.Ok (Cal.yr n) (Cal.mo n + 1) 1 := ⟨by have := a.1.m1; omega, by omega, by omega, by omega⟩
  have s := Cal.cum_succ (y := Cal.yr n) a.1.m1 a.1.m2
  have d := a.1.d2
  exact Cal.num_inj b.1 c (by rw [b.2]; have := a.2; unfold Cal.num at this ⊢; omega)
theorem next_c {n : Int} (h : ¬ Cal.dy n < Cal.len (Cal.yr n) (Cal.mo n)) (hm : ¬ Cal.mo n < 12) : Cal.yr (n + 1) = Cal.yr n + 1 ∧ Cal.mo (n + 1) = 1 ∧ Cal.dy (n + 1) = 1 := by
  have a := Cal.date_ok n
  have b := Cal.date_ok (n + 1)
  have c : Cal.Ok (Cal.yr n + 1) 1 1 := ⟨by omega, by omega, by omega, by simp [Cal.len]⟩
  have s := Cal.cum_succ (y := Cal.yr n) a.1.m1 a.1.m2
  have e : Cal.mo n = 12 := by have := a.1.m2; omega
  have f := Cal.first_succ (Cal.yr n)
  have g := Cal.cum_13 (Cal.yr n)
  have g1 := Cal.cum_1 (Cal.yr n + 1)
  have d := a.1.d2
  rw [e] at s d h
  exact Cal.num_inj b.1 c (by rw [b.2]; have := a.2; rw [e] at this; unfold Cal.num at this ⊢; rw [show (12 : Int) + 1 = 13 from rfl] at s; omega)

set_option maxRecDepth 100000 in
set_option maxHeartbeats 1000000 in
theorem civilNext_walk (n : Int) (_ : (Lit.int .i64 n).wf = true) (w : World) (hT : Tab w) :
    Calls Tryd.prog 6 #[.int .i64 n] w fun e w' => e = .returned (.bool true) ∧ Grown w w' := by
  have hb := tmod_bd n 700000000000 (by decide)
  generalize hN : n.tmod 700000000000 = N at hb
  have HN := Lib.hid hN
  clear hN
  have ok := Cal.date_ok N
  have yb := Cal.yr_bd (n := N) (by omega) (by omega)
  have m1 := ok.1.m1
  have m2 := ok.1.m2
  have d1 := ok.1.d1
  have d2 := ok.1.d2
  have lb := Cal.len_bd (Cal.yr N) (Cal.mo N)
  have wd : ((N + 1 + 4) % 7 == ((N + 4) % 7 + 1) % 7) = true := beq_t (by omega)
  clear ok
  by_cases h : Cal.dy N < Cal.len (Cal.yr N) (Cal.mo N)
  · have x := next_a h
    have hA := beq_t x.1
    have hB := beq_t x.2.1
    have hC := beq_t x.2.2
    clear x
    go_enter Tryd.func6, Tryd.ntmps6
    go_wp2_with fail
    rw [HN.out]
    go_wp2_with (first | (go_at_call 16; refine (date_in _ _ (by omega) (by omega)).mono ?_; rintro e w' ⟨rfl, rfl⟩) | (go_at_call 13; refine (len_any _ _ _ (by first | exact hT | exact hT.drewN _)).mono ?_; rintro e w' ⟨rfl, k1, rfl⟩) | (go_at_call 18; refine (weekday_any _ _ (by omega) (by omega)).mono ?_; rintro e w' ⟨rfl, rfl⟩) | (go_at_call 15; refine (works_any _ (by first | exact hT | exact hT.drewN _)).mono ?_; rintro e w' ⟨rfl, k2, rfl⟩))
    go_ret
    exact ⟨rfl, Grown.refl _⟩
  by_cases hm : Cal.mo N < 12
  · have x := next_b h hm
    have hA := beq_t x.1
    have hB := beq_t x.2.1
    have hC := beq_t x.2.2
    have h' : Cal.len (Cal.yr N) (Cal.mo N) ≤ Cal.dy N := by omega
    clear h
    clear x
    go_enter Tryd.func6, Tryd.ntmps6
    go_wp2_with fail
    rw [HN.out]
    go_wp2_with (first | (go_at_call 16; refine (date_in _ _ (by omega) (by omega)).mono ?_; rintro e w' ⟨rfl, rfl⟩) | (go_at_call 13; refine (len_any _ _ _ (by first | exact hT | exact hT.drewN _)).mono ?_; rintro e w' ⟨rfl, k1, rfl⟩) | (go_at_call 18; refine (weekday_any _ _ (by omega) (by omega)).mono ?_; rintro e w' ⟨rfl, rfl⟩) | (go_at_call 15; refine (works_any _ (by first | exact hT | exact hT.drewN _)).mono ?_; rintro e w' ⟨rfl, k2, rfl⟩))
    go_ret
    exact ⟨rfl, Grown.refl _⟩
  · have x := next_c h hm
    have hA := beq_t x.1
    have hB := beq_t x.2.1
    have hC := beq_t x.2.2
    have h' : Cal.len (Cal.yr N) (Cal.mo N) ≤ Cal.dy N := by omega
    have hm' : 12 ≤ Cal.mo N := by omega
    clear h hm
    clear x
    go_enter Tryd.func6, Tryd.ntmps6
    go_wp2_with fail
    rw [HN.out]
    go_wp2_with (first | (go_at_call 16; refine (date_in _ _ (by omega) (by omega)).mono ?_; rintro e w' ⟨rfl, rfl⟩) | (go_at_call 13; refine (len_any _ _ _ (by first | exact hT | exact hT.drewN _)).mono ?_; rintro e w' ⟨rfl, k1, rfl⟩) | (go_at_call 18; refine (weekday_any _ _ (by omega) (by omega)).mono ?_; rintro e w' ⟨rfl, rfl⟩) | (go_at_call 15; refine (works_any _ (by first | exact hT | exact hT.drewN _)).mono ?_; rintro e w' ⟨rfl, k2, rfl⟩))
    go_ret
    exact ⟨rfl, Grown.refl _⟩
end Go.Proofs.YtolljjmpomjbaaaDoor
