/-
  The document's own answers on day forms: whether there is such a day in each year.
-/
import Derived.Test.YtljbgkfoljjgbaaDoorDayS
namespace Go.Proofs.YtljbgkfoljjgbaaDoor
set_option linter.unusedVariables false
set_option linter.unusedSimpArgs false
open Go.RowKit

theorem len_2001 (m : Int) : Cal.len 2001 m = Cal.len 2023 m := by
  unfold Cal.len
  rw [show Cal.lp 2001 = Cal.lp 2023 by decide]

set_option maxHeartbeats 1000000 in
theorem ralw_m (x y m k a d : Int) (w : World) (h : ¬ (1 ≤ m ∧ m ≤ 12)) :
    Calls Tryd.prog 15 #[.int .i64 x, .int .i64 y, .int .i64 m, .agg #[.int .i64 k, .int .i64 a, .int .i64 d]] w fun e w' => e = .returned (.bool (Day.alw x y m k a d)) ∧ Below w.heap.size w w' := by
  have q := dec_fl h
  have H := Lib.hid (show Day.alw x y m k a d = false by unfold Day.alw; rw [q]; rfl)
  clear h
  go_enter Tryd.func15, Tryd.ntmps15
  go_wp2_with (go_at_call 27; refine (rin2_any _ _ _ _).mono ?_; rintro e w' ⟨rfl, rfl⟩)
  go_ret
  exact ⟨ret_bool (by first | (rw [H.out]; done) | (rw [H.out]; simp <;> omega)), by repeat (first | exact HB.out | exact Below.refl _ _ | refine below_drewN ?_ _ | apply Below.drew | (refine (fun h1 h2 => Below.setCell h2 h1 _) ?_ ?_; (· first | (simp; done) | (simp; omega) | (have := HB.out.size; simp; omega) | (have := HB.out.size; omega))) | (refine (fun h1 h2 => Below.alloc h2 h1 _) ?_ ?_; (· first | (simp; done) | (simp; omega) | (have := HB.out.size; simp; omega) | (have := HB.out.size; omega))))⟩

set_option maxHeartbeats 1000000 in
theorem ralw_arg (x y m k a d : Int) (w : World) (m1 : 1 ≤ m) (m2 : m ≤ 12) (ho : Day.okB k a d = false) :
    Calls Tryd.prog 15 #[.int .i64 x, .int .i64 y, .int .i64 m, .agg #[.int .i64 k, .int .i64 a, .int .i64 d]] w fun e w' => e = .returned (.bool (Day.alw x y m k a d)) ∧ Below w.heap.size w w' := by
  have H := Lib.hid (show Day.alw x y m k a d = false by unfold Day.alw; rw [ho]; simp)
  have HC := Lib.hid (show Day.chk k a d = 2 by unfold Day.chk; rw [ho]; rfl)
  have q := dec_tr (show 1 ≤ m ∧ m ≤ 12 from ⟨m1, m2⟩)
  clear ho
  go_enter Tryd.func15, Tryd.ntmps15
  go_wp2_with (first | (go_at_call 27; refine (rin2_any _ _ _ _).mono ?_; rintro e w' ⟨rfl, rfl⟩) | (go_at_call 12; refine (rcheck2_any k a d _).mono ?_; rintro e w1 ⟨rfl, hb⟩; have hz0 : w.heap.size < w1.heap.size := (by have := hb.size; first | (simp at this; omega) | omega); have c0 := (hb.cell (p := ⟨w.heap.size, 0, none⟩) (by first | (simp; done) | (simp; omega))).trans (show _ = some (.int .i64 k) by first | (simp; done) | (simp [*]; done)); have c1 := (hb.cell (p := ⟨w.heap.size, 1, none⟩) (by first | (simp; done) | (simp; omega))).trans (show _ = some (.int .i64 a) by first | (simp; done) | (simp [*]; done)); have c2 := (hb.cell (p := ⟨w.heap.size, 2, none⟩) (by first | (simp; done) | (simp; omega))).trans (show _ = some (.int .i64 d) by first | (simp; done) | (simp [*]; done)); have HB := Lib.hid (below_then (w := w) (by repeat (first | exact HB.out | exact Below.refl _ _ | refine below_drewN ?_ _ | apply Below.drew | (refine (fun h1 h2 => Below.setCell h2 h1 _) ?_ ?_; (· first | (simp; done) | (simp; omega) | (have := HB.out.size; simp; omega) | (have := HB.out.size; omega))) | (refine (fun h1 h2 => Below.alloc h2 h1 _) ?_ ?_; (· first | (simp; done) | (simp; omega) | (have := HB.out.size; simp; omega) | (have := HB.out.size; omega))))) hb); clear hb; rw [HC.out]))
  go_ret
  exact ⟨ret_bool (by first | (rw [H.out]; done) | (rw [H.out]; simp <;> omega)), by repeat (first | exact HB.out | exact Below.refl _ _ | refine below_drewN ?_ _ | apply Below.drew | (refine (fun h1 h2 => Below.setCell h2 h1 _) ?_ ?_; (· first | (simp; done) | (simp; omega) | (have := HB.out.size; simp; omega) | (have := HB.out.size; omega))) | (refine (fun h1 h2 => Below.alloc h2 h1 _) ?_ ?_; (· first | (simp; done) | (simp; omega) | (have := HB.out.size; simp; omega) | (have := HB.out.size; omega))))⟩

set_option maxHeartbeats 1000000 in
theorem ralw_e1 (x y m k a d : Int) (w : World) (m1 : 1 ≤ m) (m2 : m ≤ 12) (ho : Day.okB k a d = true) (hy : y < 1048576) (hxy : y < x) :
    Calls Tryd.prog 15 #[.int .i64 x, .int .i64 y, .int .i64 m, .agg #[.int .i64 k, .int .i64 a, .int .i64 d]] w fun e w' => e = .returned (.bool (Day.alw x y m k a d)) ∧ Below w.heap.size w w' := by
  have HC := Lib.hid (show Day.chk k a d = 0 by unfold Day.chk; rw [if_pos ho])
  have lb := Cal.len_bd 2001 m
  have q := dec_tr (show 1 ≤ m ∧ m ≤ 12 from ⟨m1, m2⟩)
  have hL := len_2001 m
  have H := Lib.hid (show Day.alw x y m k a d = true by
    unfold Day.alw
    rw [ho, dec_tr (show 1 ≤ m ∧ m ≤ 12 from ⟨m1, m2⟩)]
    rw [dec_tr (show y < x ∧ y < 1048576 from ⟨hxy, hy⟩)]
    simp)
  clear ho hL
  go_enter Tryd.func15, Tryd.ntmps15
  go_wp2_with (first | (go_at_call 27; refine (rin2_any _ _ _ _).mono ?_; rintro e w' ⟨rfl, rfl⟩) | (go_at_call 12; refine (rcheck2_any k a d _).mono ?_; rintro e w1 ⟨rfl, hb⟩; have hz0 : w.heap.size < w1.heap.size := (by have := hb.size; first | (simp at this; omega) | omega); have c0 := (hb.cell (p := ⟨w.heap.size, 0, none⟩) (by first | (simp; done) | (simp; omega))).trans (show _ = some (.int .i64 k) by first | (simp; done) | (simp [*]; done)); have c1 := (hb.cell (p := ⟨w.heap.size, 1, none⟩) (by first | (simp; done) | (simp; omega))).trans (show _ = some (.int .i64 a) by first | (simp; done) | (simp [*]; done)); have c2 := (hb.cell (p := ⟨w.heap.size, 2, none⟩) (by first | (simp; done) | (simp; omega))).trans (show _ = some (.int .i64 d) by first | (simp; done) | (simp [*]; done)); have HB := Lib.hid (below_then (w := w) (by repeat (first | exact HB.out | exact Below.refl _ _ | refine below_drewN ?_ _ | apply Below.drew | (refine (fun h1 h2 => Below.setCell h2 h1 _) ?_ ?_; (· first | (simp; done) | (simp; omega) | (have := HB.out.size; simp; omega) | (have := HB.out.size; omega))) | (refine (fun h1 h2 => Below.alloc h2 h1 _) ?_ ?_; (· first | (simp; done) | (simp; omega) | (have := HB.out.size; simp; omega) | (have := HB.out.size; omega))))) hb); clear hb; rw [HC.out]))
  go_ret
  exact ⟨ret_bool (by first | (rw [H.out]; done) | (rw [H.out]; simp <;> omega)), by repeat (first | exact HB.out | exact Below.refl _ _ | refine below_drewN ?_ _ | apply Below.drew | (refine (fun h1 h2 => Below.setCell h2 h1 _) ?_ ?_; (· first | (simp; done) | (simp; omega) | (have := HB.out.size; simp; omega) | (have := HB.out.size; omega))) | (refine (fun h1 h2 => Below.alloc h2 h1 _) ?_ ?_; (· first | (simp; done) | (simp; omega) | (have := HB.out.size; simp; omega) | (have := HB.out.size; omega))))⟩

set_option maxHeartbeats 1000000 in
theorem ralw_c1 (x y m k a d : Int) (w : World) (m1 : 1 ≤ m) (m2 : m ≤ 12) (ho : Day.okB k a d = true) (h : d ≤ Cal.len 2001 m) (hy : y < 1048576) (hxy : x ≤ y) :
    Calls Tryd.prog 15 #[.int .i64 x, .int .i64 y, .int .i64 m, .agg #[.int .i64 k, .int .i64 a, .int .i64 d]] w fun e w' => e = .returned (.bool (Day.alw x y m k a d)) ∧ Below w.heap.size w w' := by
  have HC := Lib.hid (show Day.chk k a d = 0 by unfold Day.chk; rw [if_pos ho])
  have lb := Cal.len_bd 2001 m
  have q := dec_tr (show 1 ≤ m ∧ m ≤ 12 from ⟨m1, m2⟩)
  have hL := len_2001 m
  have H := Lib.hid (show Day.alw x y m k a d = true by
    unfold Day.alw
    rw [ho, dec_tr (show 1 ≤ m ∧ m ≤ 12 from ⟨m1, m2⟩)]
    rw [dec_tr (show d ≤ Cal.len 2023 m by omega)]
    simp)
  clear ho hL
  go_enter Tryd.func15, Tryd.ntmps15
  go_wp2_with (first | (go_at_call 27; refine (rin2_any _ _ _ _).mono ?_; rintro e w' ⟨rfl, rfl⟩) | (go_at_call 12; refine (rcheck2_any k a d _).mono ?_; rintro e w1 ⟨rfl, hb⟩; have hz0 : w.heap.size < w1.heap.size := (by have := hb.size; first | (simp at this; omega) | omega); have c0 := (hb.cell (p := ⟨w.heap.size, 0, none⟩) (by first | (simp; done) | (simp; omega))).trans (show _ = some (.int .i64 k) by first | (simp; done) | (simp [*]; done)); have c1 := (hb.cell (p := ⟨w.heap.size, 1, none⟩) (by first | (simp; done) | (simp; omega))).trans (show _ = some (.int .i64 a) by first | (simp; done) | (simp [*]; done)); have c2 := (hb.cell (p := ⟨w.heap.size, 2, none⟩) (by first | (simp; done) | (simp; omega))).trans (show _ = some (.int .i64 d) by first | (simp; done) | (simp [*]; done)); have HB := Lib.hid (below_then (w := w) (by repeat (first | exact HB.out | exact Below.refl _ _ | refine below_drewN ?_ _ | apply Below.drew | (refine (fun h1 h2 => Below.setCell h2 h1 _) ?_ ?_; (· first | (simp; done) | (simp; omega) | (have := HB.out.size; simp; omega) | (have := HB.out.size; omega))) | (refine (fun h1 h2 => Below.alloc h2 h1 _) ?_ ?_; (· first | (simp; done) | (simp; omega) | (have := HB.out.size; simp; omega) | (have := HB.out.size; omega))))) hb); clear hb; rw [HC.out]))
  go_quiet ((go_at_call 28; exact Calls.quiet_of_same ((rlen_any _ _ _).mono fun _ _ ⟨he, hw⟩ => ⟨he, hw.symm⟩)))
  go_wp2_with fail
  go_ret
  exact ⟨ret_bool (by first | (rw [H.out]; done) | (rw [H.out]; simp <;> omega)), by repeat (first | exact HB.out | exact Below.refl _ _ | refine below_drewN ?_ _ | apply Below.drew | (refine (fun h1 h2 => Below.setCell h2 h1 _) ?_ ?_; (· first | (simp; done) | (simp; omega) | (have := HB.out.size; simp; omega) | (have := HB.out.size; omega))) | (refine (fun h1 h2 => Below.alloc h2 h1 _) ?_ ?_; (· first | (simp; done) | (simp; omega) | (have := HB.out.size; simp; omega) | (have := HB.out.size; omega))))⟩

set_option maxHeartbeats 1000000 in
theorem ralw_c2 (x y m k a d : Int) (w : World) (m1 : 1 ≤ m) (m2 : m ≤ 12) (ho : Day.okB k a d = true) (h : d ≤ Cal.len 2001 m) (hy : 1048576 ≤ y) :
    Calls Tryd.prog 15 #[.int .i64 x, .int .i64 y, .int .i64 m, .agg #[.int .i64 k, .int .i64 a, .int .i64 d]] w fun e w' => e = .returned (.bool (Day.alw x y m k a d)) ∧ Below w.heap.size w w' := by
  have HC := Lib.hid (show Day.chk k a d = 0 by unfold Day.chk; rw [if_pos ho])
  have lb := Cal.len_bd 2001 m
  have q := dec_tr (show 1 ≤ m ∧ m ≤ 12 from ⟨m1, m2⟩)
  have hL := len_2001 m
  have H := Lib.hid (show Day.alw x y m k a d = true by
    unfold Day.alw
    rw [ho, dec_tr (show 1 ≤ m ∧ m ≤ 12 from ⟨m1, m2⟩)]
    rw [dec_tr (show d ≤ Cal.len 2023 m by omega)]
    simp)
  clear ho hL
  go_enter Tryd.func15, Tryd.ntmps15
  go_wp2_with (first | (go_at_call 27; refine (rin2_any _ _ _ _).mono ?_; rintro e w' ⟨rfl, rfl⟩) | (go_at_call 12; refine (rcheck2_any k a d _).mono ?_; rintro e w1 ⟨rfl, hb⟩; have hz0 : w.heap.size < w1.heap.size := (by have := hb.size; first | (simp at this; omega) | omega); have c0 := (hb.cell (p := ⟨w.heap.size, 0, none⟩) (by first | (simp; done) | (simp; omega))).trans (show _ = some (.int .i64 k) by first | (simp; done) | (simp [*]; done)); have c1 := (hb.cell (p := ⟨w.heap.size, 1, none⟩) (by first | (simp; done) | (simp; omega))).trans (show _ = some (.int .i64 a) by first | (simp; done) | (simp [*]; done)); have c2 := (hb.cell (p := ⟨w.heap.size, 2, none⟩) (by first | (simp; done) | (simp; omega))).trans (show _ = some (.int .i64 d) by first | (simp; done) | (simp [*]; done)); have HB := Lib.hid (below_then (w := w) (by repeat (first | exact HB.out | exact Below.refl _ _ | refine below_drewN ?_ _ | apply Below.drew | (refine (fun h1 h2 => Below.setCell h2 h1 _) ?_ ?_; (· first | (simp; done) | (simp; omega) | (have := HB.out.size; simp; omega) | (have := HB.out.size; omega))) | (refine (fun h1 h2 => Below.alloc h2 h1 _) ?_ ?_; (· first | (simp; done) | (simp; omega) | (have := HB.out.size; simp; omega) | (have := HB.out.size; omega))))) hb); clear hb; rw [HC.out]))
  go_quiet ((go_at_call 28; exact Calls.quiet_of_same ((rlen_any _ _ _).mono fun _ _ ⟨he, hw⟩ => ⟨he, hw.symm⟩)))
  go_wp2_with fail
  go_ret
  exact ⟨ret_bool (by first | (rw [H.out]; done) | (rw [H.out]; simp <;> omega)), by repeat (first | exact HB.out | exact Below.refl _ _ | refine below_drewN ?_ _ | apply Below.drew | (refine (fun h1 h2 => Below.setCell h2 h1 _) ?_ ?_; (· first | (simp; done) | (simp; omega) | (have := HB.out.size; simp; omega) | (have := HB.out.size; omega))) | (refine (fun h1 h2 => Below.alloc h2 h1 _) ?_ ?_; (· first | (simp; done) | (simp; omega) | (have := HB.out.size; simp; omega) | (have := HB.out.size; omega))))⟩

set_option maxHeartbeats 1000000 in
theorem ralw_n1a (x y m k a d : Int) (w : World) (m1 : 1 ≤ m) (m2 : m ≤ 12) (ho : Day.okB k a d = true) (h : Cal.len 2001 m < d) (hy : y < 1048576) (hxy : x ≤ y) (hm : m ≠ 2) :
    Calls Tryd.prog 15 #[.int .i64 x, .int .i64 y, .int .i64 m, .agg #[.int .i64 k, .int .i64 a, .int .i64 d]] w fun e w' => e = .returned (.bool (Day.alw x y m k a d)) ∧ Below w.heap.size w w' := by
  have HC := Lib.hid (show Day.chk k a d = 0 by unfold Day.chk; rw [if_pos ho])
  have lb := Cal.len_bd 2001 m
  have q := dec_tr (show 1 ≤ m ∧ m ≤ 12 from ⟨m1, m2⟩)
  have hL := len_2001 m
  have H := Lib.hid (show Day.alw x y m k a d = false by
    unfold Day.alw
    rw [ho, dec_tr (show 1 ≤ m ∧ m ≤ 12 from ⟨m1, m2⟩)]
    rw [dec_fl (show ¬ d ≤ Cal.len 2023 m by omega), dec_fl (show ¬ (y < x ∧ y < 1048576) by omega), dec_fl (show ¬ (m = 2 ∧ d = 29 ∧ y < 1048576 ∧ x = y) by omega)]
    simp)
  have q1 := beq_fl hm
  clear hm
  clear ho hL
  go_enter Tryd.func15, Tryd.ntmps15
  go_wp2_with (first | (go_at_call 27; refine (rin2_any _ _ _ _).mono ?_; rintro e w' ⟨rfl, rfl⟩) | (go_at_call 12; refine (rcheck2_any k a d _).mono ?_; rintro e w1 ⟨rfl, hb⟩; have hz0 : w.heap.size < w1.heap.size := (by have := hb.size; first | (simp at this; omega) | omega); have c0 := (hb.cell (p := ⟨w.heap.size, 0, none⟩) (by first | (simp; done) | (simp; omega))).trans (show _ = some (.int .i64 k) by first | (simp; done) | (simp [*]; done)); have c1 := (hb.cell (p := ⟨w.heap.size, 1, none⟩) (by first | (simp; done) | (simp; omega))).trans (show _ = some (.int .i64 a) by first | (simp; done) | (simp [*]; done)); have c2 := (hb.cell (p := ⟨w.heap.size, 2, none⟩) (by first | (simp; done) | (simp; omega))).trans (show _ = some (.int .i64 d) by first | (simp; done) | (simp [*]; done)); have HB := Lib.hid (below_then (w := w) (by repeat (first | exact HB.out | exact Below.refl _ _ | refine below_drewN ?_ _ | apply Below.drew | (refine (fun h1 h2 => Below.setCell h2 h1 _) ?_ ?_; (· first | (simp; done) | (simp; omega) | (have := HB.out.size; simp; omega) | (have := HB.out.size; omega))) | (refine (fun h1 h2 => Below.alloc h2 h1 _) ?_ ?_; (· first | (simp; done) | (simp; omega) | (have := HB.out.size; simp; omega) | (have := HB.out.size; omega))))) hb); clear hb; rw [HC.out]))
  go_quiet ((go_at_call 28; exact Calls.quiet_of_same ((rlen_any _ _ _).mono fun _ _ ⟨he, hw⟩ => ⟨he, hw.symm⟩)))
  go_wp2_with fail
  go_ret
  exact ⟨ret_bool (by first | (rw [H.out]; done) | (rw [H.out]; simp <;> omega)), by repeat (first | exact HB.out | exact Below.refl _ _ | refine below_drewN ?_ _ | apply Below.drew | (refine (fun h1 h2 => Below.setCell h2 h1 _) ?_ ?_; (· first | (simp; done) | (simp; omega) | (have := HB.out.size; simp; omega) | (have := HB.out.size; omega))) | (refine (fun h1 h2 => Below.alloc h2 h1 _) ?_ ?_; (· first | (simp; done) | (simp; omega) | (have := HB.out.size; simp; omega) | (have := HB.out.size; omega))))⟩

set_option maxHeartbeats 1000000 in
theorem ralw_n1b (x y m k a d : Int) (w : World) (m1 : 1 ≤ m) (m2 : m ≤ 12) (ho : Day.okB k a d = true) (h : Cal.len 2001 m < d) (hy : 1048576 ≤ y) (hm : m ≠ 2) :
    Calls Tryd.prog 15 #[.int .i64 x, .int .i64 y, .int .i64 m, .agg #[.int .i64 k, .int .i64 a, .int .i64 d]] w fun e w' => e = .returned (.bool (Day.alw x y m k a d)) ∧ Below w.heap.size w w' := by
  have HC := Lib.hid (show Day.chk k a d = 0 by unfold Day.chk; rw [if_pos ho])
  have lb := Cal.len_bd 2001 m
  have q := dec_tr (show 1 ≤ m ∧ m ≤ 12 from ⟨m1, m2⟩)
  have hL := len_2001 m
  have H := Lib.hid (show Day.alw x y m k a d = false by
    unfold Day.alw
    rw [ho, dec_tr (show 1 ≤ m ∧ m ≤ 12 from ⟨m1, m2⟩)]
    rw [dec_fl (show ¬ d ≤ Cal.len 2023 m by omega), dec_fl (show ¬ (y < x ∧ y < 1048576) by omega), dec_fl (show ¬ (m = 2 ∧ d = 29 ∧ y < 1048576 ∧ x = y) by omega)]
    simp)
  have q1 := beq_fl hm
  clear hm
  clear ho hL
  go_enter Tryd.func15, Tryd.ntmps15
  go_wp2_with (first | (go_at_call 27; refine (rin2_any _ _ _ _).mono ?_; rintro e w' ⟨rfl, rfl⟩) | (go_at_call 12; refine (rcheck2_any k a d _).mono ?_; rintro e w1 ⟨rfl, hb⟩; have hz0 : w.heap.size < w1.heap.size := (by have := hb.size; first | (simp at this; omega) | omega); have c0 := (hb.cell (p := ⟨w.heap.size, 0, none⟩) (by first | (simp; done) | (simp; omega))).trans (show _ = some (.int .i64 k) by first | (simp; done) | (simp [*]; done)); have c1 := (hb.cell (p := ⟨w.heap.size, 1, none⟩) (by first | (simp; done) | (simp; omega))).trans (show _ = some (.int .i64 a) by first | (simp; done) | (simp [*]; done)); have c2 := (hb.cell (p := ⟨w.heap.size, 2, none⟩) (by first | (simp; done) | (simp; omega))).trans (show _ = some (.int .i64 d) by first | (simp; done) | (simp [*]; done)); have HB := Lib.hid (below_then (w := w) (by repeat (first | exact HB.out | exact Below.refl _ _ | refine below_drewN ?_ _ | apply Below.drew | (refine (fun h1 h2 => Below.setCell h2 h1 _) ?_ ?_; (· first | (simp; done) | (simp; omega) | (have := HB.out.size; simp; omega) | (have := HB.out.size; omega))) | (refine (fun h1 h2 => Below.alloc h2 h1 _) ?_ ?_; (· first | (simp; done) | (simp; omega) | (have := HB.out.size; simp; omega) | (have := HB.out.size; omega))))) hb); clear hb; rw [HC.out]))
  go_quiet ((go_at_call 28; exact Calls.quiet_of_same ((rlen_any _ _ _).mono fun _ _ ⟨he, hw⟩ => ⟨he, hw.symm⟩)))
  go_wp2_with fail
  go_ret
  exact ⟨ret_bool (by first | (rw [H.out]; done) | (rw [H.out]; simp <;> omega)), by repeat (first | exact HB.out | exact Below.refl _ _ | refine below_drewN ?_ _ | apply Below.drew | (refine (fun h1 h2 => Below.setCell h2 h1 _) ?_ ?_; (· first | (simp; done) | (simp; omega) | (have := HB.out.size; simp; omega) | (have := HB.out.size; omega))) | (refine (fun h1 h2 => Below.alloc h2 h1 _) ?_ ?_; (· first | (simp; done) | (simp; omega) | (have := HB.out.size; simp; omega) | (have := HB.out.size; omega))))⟩

set_option maxHeartbeats 1000000 in
theorem ralw_n2a (x y m k a d : Int) (w : World) (m1 : 1 ≤ m) (m2 : m ≤ 12) (ho : Day.okB k a d = true) (h : Cal.len 2001 m < d) (hy : y < 1048576) (hxy : x ≤ y) (hm : m = 2) (hd : d ≠ 29) :
    Calls Tryd.prog 15 #[.int .i64 x, .int .i64 y, .int .i64 m, .agg #[.int .i64 k, .int .i64 a, .int .i64 d]] w fun e w' => e = .returned (.bool (Day.alw x y m k a d)) ∧ Below w.heap.size w w' := by
  have HC := Lib.hid (show Day.chk k a d = 0 by unfold Day.chk; rw [if_pos ho])
  have lb := Cal.len_bd 2001 m
  have q := dec_tr (show 1 ≤ m ∧ m ≤ 12 from ⟨m1, m2⟩)
  have hL := len_2001 m
  have H := Lib.hid (show Day.alw x y m k a d = false by
    unfold Day.alw
    rw [ho, dec_tr (show 1 ≤ m ∧ m ≤ 12 from ⟨m1, m2⟩)]
    rw [dec_fl (show ¬ d ≤ Cal.len 2023 m by omega), dec_fl (show ¬ (y < x ∧ y < 1048576) by omega), dec_fl (show ¬ (m = 2 ∧ d = 29 ∧ y < 1048576 ∧ x = y) by omega)]
    simp)
  have q1 := beq_t hm
  have q2 := beq_fl hd
  clear hm hd
  clear ho hL
  go_enter Tryd.func15, Tryd.ntmps15
  go_wp2_with (first | (go_at_call 27; refine (rin2_any _ _ _ _).mono ?_; rintro e w' ⟨rfl, rfl⟩) | (go_at_call 12; refine (rcheck2_any k a d _).mono ?_; rintro e w1 ⟨rfl, hb⟩; have hz0 : w.heap.size < w1.heap.size := (by have := hb.size; first | (simp at this; omega) | omega); have c0 := (hb.cell (p := ⟨w.heap.size, 0, none⟩) (by first | (simp; done) | (simp; omega))).trans (show _ = some (.int .i64 k) by first | (simp; done) | (simp [*]; done)); have c1 := (hb.cell (p := ⟨w.heap.size, 1, none⟩) (by first | (simp; done) | (simp; omega))).trans (show _ = some (.int .i64 a) by first | (simp; done) | (simp [*]; done)); have c2 := (hb.cell (p := ⟨w.heap.size, 2, none⟩) (by first | (simp; done) | (simp; omega))).trans (show _ = some (.int .i64 d) by first | (simp; done) | (simp [*]; done)); have HB := Lib.hid (below_then (w := w) (by repeat (first | exact HB.out | exact Below.refl _ _ | refine below_drewN ?_ _ | apply Below.drew | (refine (fun h1 h2 => Below.setCell h2 h1 _) ?_ ?_; (· first | (simp; done) | (simp; omega) | (have := HB.out.size; simp; omega) | (have := HB.out.size; omega))) | (refine (fun h1 h2 => Below.alloc h2 h1 _) ?_ ?_; (· first | (simp; done) | (simp; omega) | (have := HB.out.size; simp; omega) | (have := HB.out.size; omega))))) hb); clear hb; rw [HC.out]))
  go_quiet ((go_at_call 28; exact Calls.quiet_of_same ((rlen_any _ _ _).mono fun _ _ ⟨he, hw⟩ => ⟨he, hw.symm⟩)))
  go_wp2_with fail
  go_ret
  exact ⟨ret_bool (by first | (rw [H.out]; done) | (rw [H.out]; simp <;> omega)), by repeat (first | exact HB.out | exact Below.refl _ _ | refine below_drewN ?_ _ | apply Below.drew | (refine (fun h1 h2 => Below.setCell h2 h1 _) ?_ ?_; (· first | (simp; done) | (simp; omega) | (have := HB.out.size; simp; omega) | (have := HB.out.size; omega))) | (refine (fun h1 h2 => Below.alloc h2 h1 _) ?_ ?_; (· first | (simp; done) | (simp; omega) | (have := HB.out.size; simp; omega) | (have := HB.out.size; omega))))⟩

set_option maxHeartbeats 1000000 in
theorem ralw_n2b (x y m k a d : Int) (w : World) (m1 : 1 ≤ m) (m2 : m ≤ 12) (ho : Day.okB k a d = true) (h : Cal.len 2001 m < d) (hy : 1048576 ≤ y) (hm : m = 2) (hd : d ≠ 29) :
    Calls Tryd.prog 15 #[.int .i64 x, .int .i64 y, .int .i64 m, .agg #[.int .i64 k, .int .i64 a, .int .i64 d]] w fun e w' => e = .returned (.bool (Day.alw x y m k a d)) ∧ Below w.heap.size w w' := by
  have HC := Lib.hid (show Day.chk k a d = 0 by unfold Day.chk; rw [if_pos ho])
  have lb := Cal.len_bd 2001 m
  have q := dec_tr (show 1 ≤ m ∧ m ≤ 12 from ⟨m1, m2⟩)
  have hL := len_2001 m
  have H := Lib.hid (show Day.alw x y m k a d = false by
    unfold Day.alw
    rw [ho, dec_tr (show 1 ≤ m ∧ m ≤ 12 from ⟨m1, m2⟩)]
    rw [dec_fl (show ¬ d ≤ Cal.len 2023 m by omega), dec_fl (show ¬ (y < x ∧ y < 1048576) by omega), dec_fl (show ¬ (m = 2 ∧ d = 29 ∧ y < 1048576 ∧ x = y) by omega)]
    simp)
  have q1 := beq_t hm
  have q2 := beq_fl hd
  clear hm hd
  clear ho hL
  go_enter Tryd.func15, Tryd.ntmps15
  go_wp2_with (first | (go_at_call 27; refine (rin2_any _ _ _ _).mono ?_; rintro e w' ⟨rfl, rfl⟩) | (go_at_call 12; refine (rcheck2_any k a d _).mono ?_; rintro e w1 ⟨rfl, hb⟩; have hz0 : w.heap.size < w1.heap.size := (by have := hb.size; first | (simp at this; omega) | omega); have c0 := (hb.cell (p := ⟨w.heap.size, 0, none⟩) (by first | (simp; done) | (simp; omega))).trans (show _ = some (.int .i64 k) by first | (simp; done) | (simp [*]; done)); have c1 := (hb.cell (p := ⟨w.heap.size, 1, none⟩) (by first | (simp; done) | (simp; omega))).trans (show _ = some (.int .i64 a) by first | (simp; done) | (simp [*]; done)); have c2 := (hb.cell (p := ⟨w.heap.size, 2, none⟩) (by first | (simp; done) | (simp; omega))).trans (show _ = some (.int .i64 d) by first | (simp; done) | (simp [*]; done)); have HB := Lib.hid (below_then (w := w) (by repeat (first | exact HB.out | exact Below.refl _ _ | refine below_drewN ?_ _ | apply Below.drew | (refine (fun h1 h2 => Below.setCell h2 h1 _) ?_ ?_; (· first | (simp; done) | (simp; omega) | (have := HB.out.size; simp; omega) | (have := HB.out.size; omega))) | (refine (fun h1 h2 => Below.alloc h2 h1 _) ?_ ?_; (· first | (simp; done) | (simp; omega) | (have := HB.out.size; simp; omega) | (have := HB.out.size; omega))))) hb); clear hb; rw [HC.out]))
  go_quiet ((go_at_call 28; exact Calls.quiet_of_same ((rlen_any _ _ _).mono fun _ _ ⟨he, hw⟩ => ⟨he, hw.symm⟩)))
  go_wp2_with fail
  go_ret
  exact ⟨ret_bool (by first | (rw [H.out]; done) | (rw [H.out]; simp <;> omega)), by repeat (first | exact HB.out | exact Below.refl _ _ | refine below_drewN ?_ _ | apply Below.drew | (refine (fun h1 h2 => Below.setCell h2 h1 _) ?_ ?_; (· first | (simp; done) | (simp; omega) | (have := HB.out.size; simp; omega) | (have := HB.out.size; omega))) | (refine (fun h1 h2 => Below.alloc h2 h1 _) ?_ ?_; (· first | (simp; done) | (simp; omega) | (have := HB.out.size; simp; omega) | (have := HB.out.size; omega))))⟩

set_option maxHeartbeats 1000000 in
theorem ralw_f1 (x y m k a d : Int) (w : World) (m1 : 1 ≤ m) (m2 : m ≤ 12) (ho : Day.okB k a d = true) (h : Cal.len 2001 m < d) (hy : 1048576 ≤ y) (hxy : x ≠ y) (hm : m = 2) (hd : d = 29) :
    Calls Tryd.prog 15 #[.int .i64 x, .int .i64 y, .int .i64 m, .agg #[.int .i64 k, .int .i64 a, .int .i64 d]] w fun e w' => e = .returned (.bool (Day.alw x y m k a d)) ∧ Below w.heap.size w w' := by
  have HC := Lib.hid (show Day.chk k a d = 0 by unfold Day.chk; rw [if_pos ho])
  have lb := Cal.len_bd 2001 m
  have q := dec_tr (show 1 ≤ m ∧ m ≤ 12 from ⟨m1, m2⟩)
  have hL := len_2001 m
  have H := Lib.hid (show Day.alw x y m k a d = false by
    unfold Day.alw
    rw [ho, dec_tr (show 1 ≤ m ∧ m ≤ 12 from ⟨m1, m2⟩)]
    rw [dec_fl (show ¬ d ≤ Cal.len 2023 m by omega), dec_fl (show ¬ (y < x ∧ y < 1048576) by omega), dec_fl (show ¬ (m = 2 ∧ d = 29 ∧ y < 1048576 ∧ x = y) by omega)]
    simp)
  have q1 := beq_t hm
  have q2 := beq_t hd
  have q3 := beq_fl hxy
  clear hm hd hxy
  clear ho hL
  go_enter Tryd.func15, Tryd.ntmps15
  go_wp2_with (first | (go_at_call 27; refine (rin2_any _ _ _ _).mono ?_; rintro e w' ⟨rfl, rfl⟩) | (go_at_call 12; refine (rcheck2_any k a d _).mono ?_; rintro e w1 ⟨rfl, hb⟩; have hz0 : w.heap.size < w1.heap.size := (by have := hb.size; first | (simp at this; omega) | omega); have c0 := (hb.cell (p := ⟨w.heap.size, 0, none⟩) (by first | (simp; done) | (simp; omega))).trans (show _ = some (.int .i64 k) by first | (simp; done) | (simp [*]; done)); have c1 := (hb.cell (p := ⟨w.heap.size, 1, none⟩) (by first | (simp; done) | (simp; omega))).trans (show _ = some (.int .i64 a) by first | (simp; done) | (simp [*]; done)); have c2 := (hb.cell (p := ⟨w.heap.size, 2, none⟩) (by first | (simp; done) | (simp; omega))).trans (show _ = some (.int .i64 d) by first | (simp; done) | (simp [*]; done)); have HB := Lib.hid (below_then (w := w) (by repeat (first | exact HB.out | exact Below.refl _ _ | refine below_drewN ?_ _ | apply Below.drew | (refine (fun h1 h2 => Below.setCell h2 h1 _) ?_ ?_; (· first | (simp; done) | (simp; omega) | (have := HB.out.size; simp; omega) | (have := HB.out.size; omega))) | (refine (fun h1 h2 => Below.alloc h2 h1 _) ?_ ?_; (· first | (simp; done) | (simp; omega) | (have := HB.out.size; simp; omega) | (have := HB.out.size; omega))))) hb); clear hb; rw [HC.out]))
  go_quiet ((go_at_call 28; exact Calls.quiet_of_same ((rlen_any _ _ _).mono fun _ _ ⟨he, hw⟩ => ⟨he, hw.symm⟩)))
  go_wp2_with fail
  go_ret
  exact ⟨ret_bool (by first | (rw [H.out]; done) | (rw [H.out]; simp <;> omega)), by repeat (first | exact HB.out | exact Below.refl _ _ | refine below_drewN ?_ _ | apply Below.drew | (refine (fun h1 h2 => Below.setCell h2 h1 _) ?_ ?_; (· first | (simp; done) | (simp; omega) | (have := HB.out.size; simp; omega) | (have := HB.out.size; omega))) | (refine (fun h1 h2 => Below.alloc h2 h1 _) ?_ ?_; (· first | (simp; done) | (simp; omega) | (have := HB.out.size; simp; omega) | (have := HB.out.size; omega))))⟩

set_option maxHeartbeats 1000000 in
theorem ralw_f2 (x y m k a d : Int) (w : World) (m1 : 1 ≤ m) (m2 : m ≤ 12) (ho : Day.okB k a d = true) (h : Cal.len 2001 m < d) (hy : 1048576 ≤ y) (hxy : x = y) (hm : m = 2) (hd : d = 29) :
    Calls Tryd.prog 15 #[.int .i64 x, .int .i64 y, .int .i64 m, .agg #[.int .i64 k, .int .i64 a, .int .i64 d]] w fun e w' => e = .returned (.bool (Day.alw x y m k a d)) ∧ Below w.heap.size w w' := by
  have HC := Lib.hid (show Day.chk k a d = 0 by unfold Day.chk; rw [if_pos ho])
  have lb := Cal.len_bd 2001 m
  have q := dec_tr (show 1 ≤ m ∧ m ≤ 12 from ⟨m1, m2⟩)
  have hL := len_2001 m
  have H := Lib.hid (show Day.alw x y m k a d = false by
    unfold Day.alw
    rw [ho, dec_tr (show 1 ≤ m ∧ m ≤ 12 from ⟨m1, m2⟩)]
    rw [dec_fl (show ¬ d ≤ Cal.len 2023 m by omega), dec_fl (show ¬ (y < x ∧ y < 1048576) by omega), dec_fl (show ¬ (m = 2 ∧ d = 29 ∧ y < 1048576 ∧ x = y) by omega)]
    simp)
  have q1 := beq_t hm
  have q2 := beq_t hd
  have q3 := beq_t hxy
  have q5 : decide (y < 1048576) = false := dec_fl (by omega)
  clear hm hd hxy
  clear ho hL
  go_enter Tryd.func15, Tryd.ntmps15
  go_wp2_with (first | (go_at_call 27; refine (rin2_any _ _ _ _).mono ?_; rintro e w' ⟨rfl, rfl⟩) | (go_at_call 12; refine (rcheck2_any k a d _).mono ?_; rintro e w1 ⟨rfl, hb⟩; have hz0 : w.heap.size < w1.heap.size := (by have := hb.size; first | (simp at this; omega) | omega); have c0 := (hb.cell (p := ⟨w.heap.size, 0, none⟩) (by first | (simp; done) | (simp; omega))).trans (show _ = some (.int .i64 k) by first | (simp; done) | (simp [*]; done)); have c1 := (hb.cell (p := ⟨w.heap.size, 1, none⟩) (by first | (simp; done) | (simp; omega))).trans (show _ = some (.int .i64 a) by first | (simp; done) | (simp [*]; done)); have c2 := (hb.cell (p := ⟨w.heap.size, 2, none⟩) (by first | (simp; done) | (simp; omega))).trans (show _ = some (.int .i64 d) by first | (simp; done) | (simp [*]; done)); have HB := Lib.hid (below_then (w := w) (by repeat (first | exact HB.out | exact Below.refl _ _ | refine below_drewN ?_ _ | apply Below.drew | (refine (fun h1 h2 => Below.setCell h2 h1 _) ?_ ?_; (· first | (simp; done) | (simp; omega) | (have := HB.out.size; simp; omega) | (have := HB.out.size; omega))) | (refine (fun h1 h2 => Below.alloc h2 h1 _) ?_ ?_; (· first | (simp; done) | (simp; omega) | (have := HB.out.size; simp; omega) | (have := HB.out.size; omega))))) hb); clear hb; rw [HC.out]))
  go_quiet ((go_at_call 28; exact Calls.quiet_of_same ((rlen_any _ _ _).mono fun _ _ ⟨he, hw⟩ => ⟨he, hw.symm⟩)))
  go_wp2_with fail
  go_ret
  exact ⟨ret_bool (by first | (rw [H.out]; done) | (rw [H.out]; simp <;> omega)), by repeat (first | exact HB.out | exact Below.refl _ _ | refine below_drewN ?_ _ | apply Below.drew | (refine (fun h1 h2 => Below.setCell h2 h1 _) ?_ ?_; (· first | (simp; done) | (simp; omega) | (have := HB.out.size; simp; omega) | (have := HB.out.size; omega))) | (refine (fun h1 h2 => Below.alloc h2 h1 _) ?_ ?_; (· first | (simp; done) | (simp; omega) | (have := HB.out.size; simp; omega) | (have := HB.out.size; omega))))⟩

set_option maxHeartbeats 1000000 in
theorem ralw_f3 (x y m k a d : Int) (w : World) (m1 : 1 ≤ m) (m2 : m ≤ 12) (ho : Day.okB k a d = true) (h : Cal.len 2001 m < d) (hy : y < 1048576) (hxy : x < y) (hm : m = 2) (hd : d = 29) :
    Calls Tryd.prog 15 #[.int .i64 x, .int .i64 y, .int .i64 m, .agg #[.int .i64 k, .int .i64 a, .int .i64 d]] w fun e w' => e = .returned (.bool (Day.alw x y m k a d)) ∧ Below w.heap.size w w' := by
  have HC := Lib.hid (show Day.chk k a d = 0 by unfold Day.chk; rw [if_pos ho])
  have lb := Cal.len_bd 2001 m
  have q := dec_tr (show 1 ≤ m ∧ m ≤ 12 from ⟨m1, m2⟩)
  have hL := len_2001 m
  have H := Lib.hid (show Day.alw x y m k a d = false by
    unfold Day.alw
    rw [ho, dec_tr (show 1 ≤ m ∧ m ≤ 12 from ⟨m1, m2⟩)]
    rw [dec_fl (show ¬ d ≤ Cal.len 2023 m by omega), dec_fl (show ¬ (y < x ∧ y < 1048576) by omega), dec_fl (show ¬ (m = 2 ∧ d = 29 ∧ y < 1048576 ∧ x = y) by omega)]
    simp)
  have q1 := beq_t hm
  have q2 := beq_t hd
  have q3 := beq_fl (show x ≠ y by omega)
  clear hm hd
  clear ho hL
  go_enter Tryd.func15, Tryd.ntmps15
  go_wp2_with (first | (go_at_call 27; refine (rin2_any _ _ _ _).mono ?_; rintro e w' ⟨rfl, rfl⟩) | (go_at_call 12; refine (rcheck2_any k a d _).mono ?_; rintro e w1 ⟨rfl, hb⟩; have hz0 : w.heap.size < w1.heap.size := (by have := hb.size; first | (simp at this; omega) | omega); have c0 := (hb.cell (p := ⟨w.heap.size, 0, none⟩) (by first | (simp; done) | (simp; omega))).trans (show _ = some (.int .i64 k) by first | (simp; done) | (simp [*]; done)); have c1 := (hb.cell (p := ⟨w.heap.size, 1, none⟩) (by first | (simp; done) | (simp; omega))).trans (show _ = some (.int .i64 a) by first | (simp; done) | (simp [*]; done)); have c2 := (hb.cell (p := ⟨w.heap.size, 2, none⟩) (by first | (simp; done) | (simp; omega))).trans (show _ = some (.int .i64 d) by first | (simp; done) | (simp [*]; done)); have HB := Lib.hid (below_then (w := w) (by repeat (first | exact HB.out | exact Below.refl _ _ | refine below_drewN ?_ _ | apply Below.drew | (refine (fun h1 h2 => Below.setCell h2 h1 _) ?_ ?_; (· first | (simp; done) | (simp; omega) | (have := HB.out.size; simp; omega) | (have := HB.out.size; omega))) | (refine (fun h1 h2 => Below.alloc h2 h1 _) ?_ ?_; (· first | (simp; done) | (simp; omega) | (have := HB.out.size; simp; omega) | (have := HB.out.size; omega))))) hb); clear hb; rw [HC.out]))
  go_quiet ((go_at_call 28; exact Calls.quiet_of_same ((rlen_any _ _ _).mono fun _ _ ⟨he, hw⟩ => ⟨he, hw.symm⟩)))
  go_wp2_with fail
  go_ret
  exact ⟨ret_bool (by first | (rw [H.out]; done) | (rw [H.out]; simp <;> omega)), by repeat (first | exact HB.out | exact Below.refl _ _ | refine below_drewN ?_ _ | apply Below.drew | (refine (fun h1 h2 => Below.setCell h2 h1 _) ?_ ?_; (· first | (simp; done) | (simp; omega) | (have := HB.out.size; simp; omega) | (have := HB.out.size; omega))) | (refine (fun h1 h2 => Below.alloc h2 h1 _) ?_ ?_; (· first | (simp; done) | (simp; omega) | (have := HB.out.size; simp; omega) | (have := HB.out.size; omega))))⟩

set_option maxHeartbeats 1000000 in
theorem ralw_f4 (x y m k a d : Int) (w : World) (m1 : 1 ≤ m) (m2 : m ≤ 12) (ho : Day.okB k a d = true) (h : Cal.len 2001 m < d) (hy : y < 1048576) (hxy : x = y) (hm : m = 2) (hd : d = 29) :
    Calls Tryd.prog 15 #[.int .i64 x, .int .i64 y, .int .i64 m, .agg #[.int .i64 k, .int .i64 a, .int .i64 d]] w fun e w' => e = .returned (.bool (Day.alw x y m k a d)) ∧ Below w.heap.size w w' := by
  have HC := Lib.hid (show Day.chk k a d = 0 by unfold Day.chk; rw [if_pos ho])
  have lb := Cal.len_bd 2001 m
  have q := dec_tr (show 1 ≤ m ∧ m ≤ 12 from ⟨m1, m2⟩)
  have hL := len_2001 m
  have H := Lib.hid (show Day.alw x y m k a d = Cal.lpB x by
    unfold Day.alw
    rw [ho, dec_tr (show 1 ≤ m ∧ m ≤ 12 from ⟨m1, m2⟩)]
    rw [dec_fl (show ¬ d ≤ Cal.len 2023 m by omega), dec_fl (show ¬ (y < x ∧ y < 1048576) by omega), dec_tr (show m = 2 ∧ d = 29 ∧ y < 1048576 ∧ x = y from ⟨hm, hd, hy, hxy⟩)]
    simp)
  have q1 := beq_t hm
  have q2 := beq_t hd
  have q3 := beq_t hxy
  have q4 : x ≤ y := by omega
  have q5 : decide (y < 1048576) = true := dec_tr hy
  clear hm hd hxy
  clear ho hL
  go_enter Tryd.func15, Tryd.ntmps15
  go_wp2_with (first | (go_at_call 27; refine (rin2_any _ _ _ _).mono ?_; rintro e w' ⟨rfl, rfl⟩) | (go_at_call 12; refine (rcheck2_any k a d _).mono ?_; rintro e w1 ⟨rfl, hb⟩; have hz0 : w.heap.size < w1.heap.size := (by have := hb.size; first | (simp at this; omega) | omega); have c0 := (hb.cell (p := ⟨w.heap.size, 0, none⟩) (by first | (simp; done) | (simp; omega))).trans (show _ = some (.int .i64 k) by first | (simp; done) | (simp [*]; done)); have c1 := (hb.cell (p := ⟨w.heap.size, 1, none⟩) (by first | (simp; done) | (simp; omega))).trans (show _ = some (.int .i64 a) by first | (simp; done) | (simp [*]; done)); have c2 := (hb.cell (p := ⟨w.heap.size, 2, none⟩) (by first | (simp; done) | (simp; omega))).trans (show _ = some (.int .i64 d) by first | (simp; done) | (simp [*]; done)); have HB := Lib.hid (below_then (w := w) (by repeat (first | exact HB.out | exact Below.refl _ _ | refine below_drewN ?_ _ | apply Below.drew | (refine (fun h1 h2 => Below.setCell h2 h1 _) ?_ ?_; (· first | (simp; done) | (simp; omega) | (have := HB.out.size; simp; omega) | (have := HB.out.size; omega))) | (refine (fun h1 h2 => Below.alloc h2 h1 _) ?_ ?_; (· first | (simp; done) | (simp; omega) | (have := HB.out.size; simp; omega) | (have := HB.out.size; omega))))) hb); clear hb; rw [HC.out]))
  go_quiet ((go_at_call 28; exact Calls.quiet_of_same ((rlen_any _ _ _).mono fun _ _ ⟨he, hw⟩ => ⟨he, hw.symm⟩)))
  go_wp2_with (go_at_call 33; refine (rleap2_any _ _).mono ?_; rintro e w' ⟨rfl, rfl⟩)
  go_ret
  exact ⟨ret_bool (by first | (rw [H.out]; done) | (rw [H.out]; simp <;> omega)), by repeat (first | exact HB.out | exact Below.refl _ _ | refine below_drewN ?_ _ | apply Below.drew | (refine (fun h1 h2 => Below.setCell h2 h1 _) ?_ ?_; (· first | (simp; done) | (simp; omega) | (have := HB.out.size; simp; omega) | (have := HB.out.size; omega))) | (refine (fun h1 h2 => Below.alloc h2 h1 _) ?_ ?_; (· first | (simp; done) | (simp; omega) | (have := HB.out.size; simp; omega) | (have := HB.out.size; omega))))⟩

theorem ralways_any (x y m k a d : Int) (w : World) :
    Calls Tryd.prog 15 #[.int .i64 x, .int .i64 y, .int .i64 m, .agg #[.int .i64 k, .int .i64 a, .int .i64 d]] w fun e w' => e = .returned (.bool (Day.alw x y m k a d)) ∧ Below w.heap.size w w' := by
  by_cases hm : 1 ≤ m ∧ m ≤ 12
  case neg => exact ralw_m x y m k a d w hm
  obtain ⟨m1, m2⟩ := hm
  cases ho : Day.okB k a d
  · exact ralw_arg x y m k a d w m1 m2 ho
  by_cases hy : y < 1048576
  · by_cases hxy : y < x
    · exact ralw_e1 x y m k a d w m1 m2 ho hy hxy
    · by_cases h : d ≤ Cal.len 2001 m
      · exact ralw_c1 x y m k a d w m1 m2 ho h hy (by omega)
      · have h' : Cal.len 2001 m < d := by omega
        by_cases e1 : m = 2
        · by_cases e2 : d = 29
          · by_cases e3 : x = y
            · exact ralw_f4 x y m k a d w m1 m2 ho h' hy e3 e1 e2
            · exact ralw_f3 x y m k a d w m1 m2 ho h' hy (by omega) e1 e2
          · exact ralw_n2a x y m k a d w m1 m2 ho h' hy (by omega) e1 e2
        · exact ralw_n1a x y m k a d w m1 m2 ho h' hy (by omega) e1
  · by_cases h : d ≤ Cal.len 2001 m
    · exact ralw_c2 x y m k a d w m1 m2 ho h (by omega)
    · have h' : Cal.len 2001 m < d := by omega
      by_cases e1 : m = 2
      · by_cases e2 : d = 29
        · by_cases e3 : x = y
          · exact ralw_f2 x y m k a d w m1 m2 ho h' (by omega) e3 e1 e2
          · exact ralw_f1 x y m k a d w m1 m2 ho h' (by omega) e3 e1 e2
        · exact ralw_n2b x y m k a d w m1 m2 ho h' (by omega) e1 e2
      · exact ralw_n1b x y m k a d w m1 m2 ho h' (by omega) e1
end Go.Proofs.YtljbgkfoljjgbaaDoor
