/-
  The document's own answers on day forms: the day.
-/
import Derived.Test.YtljbgkfoljjgbaaDoorDayL
namespace Go.Proofs.YtljbgkfoljjgbaaDoor
set_option linter.unusedVariables false
set_option linter.unusedSimpArgs false
open Go.RowKit

set_option maxHeartbeats 1000000 in
theorem ron_range (y m k a d : Int) (w : World) (h : Day.inB y m = false) :
    Calls Tryd.prog 10 #[.int .i64 y, .int .i64 m, .agg #[.int .i64 k, .int .i64 a, .int .i64 d]] w fun e w' => e = .returned (.tuple #[.int .i64 0, .int .i64 3]) ∧ Below w.heap.size w w' := by
  have h' : ¬ Day.inB y m = true := by simp [h]
  rw [Day.inB_iff] at h'
  by_cases hm : 1 ≤ m ∧ m ≤ 12
  · have q := dec_tr hm
    by_cases hy : y < -2000000000
    · clear h h' hm
      go_enter Tryd.func10, Tryd.ntmps10
      go_wp2_with (go_at_call 27; refine (rin2_any _ _ _ _).mono ?_; rintro e w' ⟨rfl, rfl⟩)
      go_ret2
      exact ⟨rfl, by repeat (first | exact HB.out | exact Below.refl _ _ | refine below_drewN ?_ _ | apply Below.drew | (refine (fun h1 h2 => Below.setCell h2 h1 _) ?_ ?_; (· first | (simp; done) | (simp; omega) | (have := HB.out.size; simp; omega) | (have := HB.out.size; omega))) | (refine (fun h1 h2 => Below.alloc h2 h1 _) ?_ ?_; (· first | (simp; done) | (simp; omega) | (have := HB.out.size; simp; omega) | (have := HB.out.size; omega))))⟩
    · have hy1 : -2000000000 ≤ y := by omega
      have hy2 : 2000000000 < y := by omega
      clear h h' hm hy
      go_enter Tryd.func10, Tryd.ntmps10
      go_wp2_with (go_at_call 27; refine (rin2_any _ _ _ _).mono ?_; rintro e w' ⟨rfl, rfl⟩)
      go_ret2
      exact ⟨rfl, by repeat (first | exact HB.out | exact Below.refl _ _ | refine below_drewN ?_ _ | apply Below.drew | (refine (fun h1 h2 => Below.setCell h2 h1 _) ?_ ?_; (· first | (simp; done) | (simp; omega) | (have := HB.out.size; simp; omega) | (have := HB.out.size; omega))) | (refine (fun h1 h2 => Below.alloc h2 h1 _) ?_ ?_; (· first | (simp; done) | (simp; omega) | (have := HB.out.size; simp; omega) | (have := HB.out.size; omega))))⟩
  · have q := dec_fl hm
    clear h h' hm
    go_enter Tryd.func10, Tryd.ntmps10
    go_wp2_with (go_at_call 27; refine (rin2_any _ _ _ _).mono ?_; rintro e w' ⟨rfl, rfl⟩)
    go_ret2
    exact ⟨rfl, by repeat (first | exact HB.out | exact Below.refl _ _ | refine below_drewN ?_ _ | apply Below.drew | (refine (fun h1 h2 => Below.setCell h2 h1 _) ?_ ?_; (· first | (simp; done) | (simp; omega) | (have := HB.out.size; simp; omega) | (have := HB.out.size; omega))) | (refine (fun h1 h2 => Below.alloc h2 h1 _) ?_ ?_; (· first | (simp; done) | (simp; omega) | (have := HB.out.size; simp; omega) | (have := HB.out.size; omega))))⟩

set_option maxHeartbeats 1000000 in
theorem ron_arg (y m k a d : Int) (w : World) (h : Day.inB y m = true) (h2 : Day.okB k a d = false) :
    Calls Tryd.prog 10 #[.int .i64 y, .int .i64 m, .agg #[.int .i64 k, .int .i64 a, .int .i64 d]] w fun e w' => e = .returned (.tuple #[.int .i64 0, .int .i64 2]) ∧ Below w.heap.size w w' := by
  rw [Day.inB_iff] at h
  obtain ⟨y1, y2, m1, m2⟩ := h
  have q := dec_tr (show 1 ≤ m ∧ m ≤ 12 from ⟨m1, m2⟩)
  have HC := Lib.hid (show Day.chk k a d = 2 by unfold Day.chk; rw [h2]; rfl)
  clear h2
  go_enter Tryd.func10, Tryd.ntmps10
  go_wp2_with (first | (go_at_call 27; refine (rin2_any _ _ _ _).mono ?_; rintro e w' ⟨rfl, rfl⟩) | (go_at_call 12; refine (rcheck2_any _ _ _ _).mono ?_; rintro e w1 ⟨rfl, hb⟩; have c0 := hb.cell (p := ⟨w.heap.size, 0, none⟩) (by simp); have c1 := hb.cell (p := ⟨w.heap.size, 1, none⟩) (by simp); have c2 := hb.cell (p := ⟨w.heap.size, 2, none⟩) (by simp); simp at c0 c1 c2; have HB := Lib.hid (below_then (w := w) (by repeat (first | exact HB.out | exact Below.refl _ _ | refine below_drewN ?_ _ | apply Below.drew | (refine (fun h1 h2 => Below.setCell h2 h1 _) ?_ ?_; (· first | (simp; done) | (simp; omega) | (have := HB.out.size; simp; omega) | (have := HB.out.size; omega))) | (refine (fun h1 h2 => Below.alloc h2 h1 _) ?_ ?_; (· first | (simp; done) | (simp; omega) | (have := HB.out.size; simp; omega) | (have := HB.out.size; omega))))) hb); clear hb; rw [HC.out]))
  go_ret2
  exact ⟨rfl, by repeat (first | exact HB.out | exact Below.refl _ _ | refine below_drewN ?_ _ | apply Below.drew | (refine (fun h1 h2 => Below.setCell h2 h1 _) ?_ ?_; (· first | (simp; done) | (simp; omega) | (have := HB.out.size; simp; omega) | (have := HB.out.size; omega))) | (refine (fun h1 h2 => Below.alloc h2 h1 _) ?_ ?_; (· first | (simp; done) | (simp; omega) | (have := HB.out.size; simp; omega) | (have := HB.out.size; omega))))⟩

set_option maxHeartbeats 1000000 in
theorem ron_none (y m k a d : Int) (w : World) (h : Day.inB y m = true) (h2 : Day.okB k a d = true) (h4 : Cal.len y m < d) :
    Calls Tryd.prog 10 #[.int .i64 y, .int .i64 m, .agg #[.int .i64 k, .int .i64 a, .int .i64 d]] w fun e w' => e = .returned (.tuple #[.int .i64 0, .int .i64 4]) ∧ Below w.heap.size w w' := by
  rw [Day.inB_iff] at h
  obtain ⟨y1, y2, m1, m2⟩ := h
  have q := dec_tr (show 1 ≤ m ∧ m ≤ 12 from ⟨m1, m2⟩)
  have HC := Lib.hid (show Day.chk k a d = 0 by unfold Day.chk; rw [if_pos h2])
  clear h2
  go_enter Tryd.func10, Tryd.ntmps10
  go_wp2_with (first | (go_at_call 27; refine (rin2_any _ _ _ _).mono ?_; rintro e w' ⟨rfl, rfl⟩) | (go_at_call 12; refine (rcheck2_any _ _ _ _).mono ?_; rintro e w1 ⟨rfl, hb⟩; have c0 := hb.cell (p := ⟨w.heap.size, 0, none⟩) (by simp); have c1 := hb.cell (p := ⟨w.heap.size, 1, none⟩) (by simp); have c2 := hb.cell (p := ⟨w.heap.size, 2, none⟩) (by simp); simp at c0 c1 c2; have HB := Lib.hid (below_then (w := w) (by repeat (first | exact HB.out | exact Below.refl _ _ | refine below_drewN ?_ _ | apply Below.drew | (refine (fun h1 h2 => Below.setCell h2 h1 _) ?_ ?_; (· first | (simp; done) | (simp; omega) | (have := HB.out.size; simp; omega) | (have := HB.out.size; omega))) | (refine (fun h1 h2 => Below.alloc h2 h1 _) ?_ ?_; (· first | (simp; done) | (simp; omega) | (have := HB.out.size; simp; omega) | (have := HB.out.size; omega))))) hb); clear hb; rw [HC.out]))
  go_quiet ((go_at_call 28; exact Calls.quiet_of_same ((rlen_any _ _ _).mono fun _ _ ⟨he, hw⟩ => ⟨he, hw.symm⟩)))
  go_wp2
  go_ret2
  exact ⟨rfl, by repeat (first | exact HB.out | exact Below.refl _ _ | refine below_drewN ?_ _ | apply Below.drew | (refine (fun h1 h2 => Below.setCell h2 h1 _) ?_ ?_; (· first | (simp; done) | (simp; omega) | (have := HB.out.size; simp; omega) | (have := HB.out.size; omega))) | (refine (fun h1 h2 => Below.alloc h2 h1 _) ?_ ?_; (· first | (simp; done) | (simp; omega) | (have := HB.out.size; simp; omega) | (have := HB.out.size; omega))))⟩

set_option maxHeartbeats 2000000 in
theorem ron_ok1 (y m d : Int) (w : World) (h : Day.inB y m = true) (d1 : 1 ≤ d) (d2 : d ≤ 31) (h2 : Day.okB 1 0 d = true) (h4 : d ≤ Cal.len y m) :
    Calls Tryd.prog 10 #[.int .i64 y, .int .i64 m, .agg #[.int .i64 1, .int .i64 0, .int .i64 d]] w fun e w' => e = .returned (.tuple #[.int .i64 (Day.on 1 0 d (Day.fst y m) (Day.lst y m)), .int .i64 0]) ∧ Below w.heap.size w w' := by
  have ok := Lib.hid (inB_ok h)
  have fb := Day.fst_bd h
  rw [Day.inB_iff] at h
  obtain ⟨y1, y2, m1, m2⟩ := h
  have lb := Cal.len_bd y m
  unfold Day.fst at fb
  have q := dec_tr (show 1 ≤ m ∧ m ≤ 12 from ⟨m1, m2⟩)
  have HC := Lib.hid (show Day.chk 1 0 d = 0 by unfold Day.chk; rw [if_pos h2])
  clear h2
  go_enter Tryd.func10, Tryd.ntmps10
  go_wp2_with (first | (go_at_call 27; refine (rin2_any _ _ _ _).mono ?_; rintro e w' ⟨rfl, rfl⟩) | (go_at_call 12; refine (rcheck2_any _ _ _ _).mono ?_; rintro e w1 ⟨rfl, hb⟩; have c0 := hb.cell (p := ⟨w.heap.size, 0, none⟩) (by simp); have c1 := hb.cell (p := ⟨w.heap.size, 1, none⟩) (by simp); have c2 := hb.cell (p := ⟨w.heap.size, 2, none⟩) (by simp); simp at c0 c1 c2; have HB := Lib.hid (below_then (w := w) (by repeat (first | exact HB.out | exact Below.refl _ _ | refine below_drewN ?_ _ | apply Below.drew | (refine (fun h1 h2 => Below.setCell h2 h1 _) ?_ ?_; (· first | (simp; done) | (simp; omega) | (have := HB.out.size; simp; omega) | (have := HB.out.size; omega))) | (refine (fun h1 h2 => Below.alloc h2 h1 _) ?_ ?_; (· first | (simp; done) | (simp; omega) | (have := HB.out.size; simp; omega) | (have := HB.out.size; omega))))) hb); clear hb; rw [HC.out]))
  go_quiet ((go_at_call 28; exact Calls.quiet_of_same ((rlen_any _ _ _).mono fun _ _ ⟨he, hw⟩ => ⟨he, hw.symm⟩)))
  go_wp2_with (go_at_call 29; refine (rdays_ok y m 1 _ y1 y2 ok.out).mono ?_; rintro e w' ⟨rfl, rfl⟩)
  go_ret2
  exact ⟨rfl, by repeat (first | exact HB.out | exact Below.refl _ _ | refine below_drewN ?_ _ | apply Below.drew | (refine (fun h1 h2 => Below.setCell h2 h1 _) ?_ ?_; (· first | (simp; done) | (simp; omega) | (have := HB.out.size; simp; omega) | (have := HB.out.size; omega))) | (refine (fun h1 h2 => Below.alloc h2 h1 _) ?_ ?_; (· first | (simp; done) | (simp; omega) | (have := HB.out.size; simp; omega) | (have := HB.out.size; omega))))⟩

set_option maxHeartbeats 2000000 in
theorem ron_ok2 (y m a : Int) (w : World) (h : Day.inB y m = true) (a1 : 0 ≤ a) (a2 : a ≤ 6) (h2 : Day.okB 2 a 0 = true) (h4 : 0 ≤ Cal.len y m) :
    Calls Tryd.prog 10 #[.int .i64 y, .int .i64 m, .agg #[.int .i64 2, .int .i64 a, .int .i64 0]] w fun e w' => e = .returned (.tuple #[.int .i64 (Day.on 2 a 0 (Day.fst y m) (Day.lst y m)), .int .i64 0]) ∧ Below w.heap.size w w' := by
  have ok := Lib.hid (inB_ok h)
  have fb := Day.fst_bd h
  rw [Day.inB_iff] at h
  obtain ⟨y1, y2, m1, m2⟩ := h
  have lb := Cal.len_bd y m
  unfold Day.fst at fb
  have q := dec_tr (show 1 ≤ m ∧ m ≤ 12 from ⟨m1, m2⟩)
  have HC := Lib.hid (show Day.chk 2 a 0 = 0 by unfold Day.chk; rw [if_pos h2])
  clear h2
  have bk := Day.back_bd a (Cal.num y m 1 + Cal.len y m - 1)
  have bw := Day.back_wd (w := a) (n := Cal.num y m 1 + Cal.len y m - 1) ⟨a1, a2⟩
  have HT : ∃ T : Int, T = Cal.num y m 1 + Cal.len y m - 1 - Day.back a (Cal.num y m 1 + Cal.len y m - 1) := ⟨_, rfl⟩
  obtain ⟨T, hT⟩ := HT
  rw [← hT] at bw
  have HTT := Lib.hid (show Day.on 2 a 0 (Day.fst y m) (Day.lst y m) = T from hT.symm)
  have t1 : T ≤ Cal.num y m 1 + Cal.len y m - 1 := by omega
  have t2 : Cal.num y m 1 + Cal.len y m - 1 - 6 ≤ T := by omega
  clear hT bk
  unfold Day.wd at bw
  have BW := Lib.hid bw
  clear bw
  go_enter Tryd.func10, Tryd.ntmps10
  go_wp2_with (first | (go_at_call 27; refine (rin2_any _ _ _ _).mono ?_; rintro e w' ⟨rfl, rfl⟩) | (go_at_call 12; refine (rcheck2_any _ _ _ _).mono ?_; rintro e w1 ⟨rfl, hb⟩; have c0 := hb.cell (p := ⟨w.heap.size, 0, none⟩) (by simp); have c1 := hb.cell (p := ⟨w.heap.size, 1, none⟩) (by simp); have c2 := hb.cell (p := ⟨w.heap.size, 2, none⟩) (by simp); simp at c0 c1 c2; have HB := Lib.hid (below_then (w := w) (by repeat (first | exact HB.out | exact Below.refl _ _ | refine below_drewN ?_ _ | apply Below.drew | (refine (fun h1 h2 => Below.setCell h2 h1 _) ?_ ?_; (· first | (simp; done) | (simp; omega) | (have := HB.out.size; simp; omega) | (have := HB.out.size; omega))) | (refine (fun h1 h2 => Below.alloc h2 h1 _) ?_ ?_; (· first | (simp; done) | (simp; omega) | (have := HB.out.size; simp; omega) | (have := HB.out.size; omega))))) hb); clear hb; rw [HC.out]))
  go_quiet ((go_at_call 28; exact Calls.quiet_of_same ((rlen_any _ _ _).mono fun _ _ ⟨he, hw⟩ => ⟨he, hw.symm⟩)))
  go_wp2_with (first | (go_at_call 29; refine (rdays_ok y m 1 _ y1 y2 ok.out).mono ?_; rintro e w' ⟨rfl, rfl⟩) | (go_at_call 28; refine (rlen_any _ _ _).mono ?_; rintro e w' ⟨rfl, rfl⟩))
  go_loopw [11] (fun x wr => ∃ j : Int, T ≤ j ∧ j ≤ Cal.num y m 1 + Cal.len y m - 1 ∧ x = .int .i64 j ∧ ∃ n, wr = w1.drewN n) (fun x _ => (intOf x - T).toNat)
  case atStart => exact ⟨_, by omega, by omega, rfl, ⟨_, rfl⟩⟩
  case round =>
    obtain ⟨j, j1, j2, rfl, nr, hwr⟩ := hrel
    have c1r : wr.cell? ⟨w.heap.size, 1, none⟩ = some (.int .i64 a) := by rw [hwr]; exact c1
    have HW := Lib.hid hwr
    clear hwr
    by_cases hj : T < j
    · have qn : ((j + 4) % 7 != a) = true := by
        rw [bne_iff_ne]; have := BW.out; omega
      go_wp2
      go_quiet ((go_at_call 30; exact Calls.quiet_of_same ((rweekday_any _ _).mono fun _ _ ⟨he, hw⟩ => ⟨he, hw.symm⟩)))
      go_wp2
      go_roundw
      case rel => exact ⟨j - 1, by omega, by omega, rfl, _, by rw [HW.out, World.drewN_drewN]⟩
      case measure => simp [intOf]; omega
    · obtain rfl : j = T := by omega
      have qn : ((j + 4) % 7 != a) = false := by have := BW.out; simp; omega
      go_wp2
      go_quiet ((go_at_call 30; exact Calls.quiet_of_same ((rweekday_any _ _).mono fun _ _ ⟨he, hw⟩ => ⟨he, hw.symm⟩)))
      go_wp2
      go_ret2
      exact ⟨ret_pair HTT.out.symm rfl, by refine below_drewN ?_ _; rw [HW.out]; repeat (first | exact HB.out | exact Below.refl _ _ | refine below_drewN ?_ _ | apply Below.drew | (refine (fun h1 h2 => Below.setCell h2 h1 _) ?_ ?_; (· first | (simp; done) | (simp; omega) | (have := HB.out.size; simp; omega) | (have := HB.out.size; omega))) | (refine (fun h1 h2 => Below.alloc h2 h1 _) ?_ ?_; (· first | (simp; done) | (simp; omega) | (have := HB.out.size; simp; omega) | (have := HB.out.size; omega))))⟩

set_option maxHeartbeats 2000000 in
theorem ron_ok3 (y m a d : Int) (w : World) (h : Day.inB y m = true) (a1 : 0 ≤ a) (a2 : a ≤ 6) (d1 : 1 ≤ d) (d2 : d ≤ 31) (h2 : Day.okB 3 a d = true) (h4 : d ≤ Cal.len y m) :
    Calls Tryd.prog 10 #[.int .i64 y, .int .i64 m, .agg #[.int .i64 3, .int .i64 a, .int .i64 d]] w fun e w' => e = .returned (.tuple #[.int .i64 (Day.on 3 a d (Day.fst y m) (Day.lst y m)), .int .i64 0]) ∧ Below w.heap.size w w' := by
  have ok := Lib.hid (inB_ok h)
  have fb := Day.fst_bd h
  rw [Day.inB_iff] at h
  obtain ⟨y1, y2, m1, m2⟩ := h
  have lb := Cal.len_bd y m
  unfold Day.fst at fb
  have q := dec_tr (show 1 ≤ m ∧ m ≤ 12 from ⟨m1, m2⟩)
  have HC := Lib.hid (show Day.chk 3 a d = 0 by unfold Day.chk; rw [if_pos h2])
  clear h2
  have bk := Day.back_bd a (Cal.num y m 1 + d - 1 + 6)
  have bw := Day.back_wd (w := a) (n := Cal.num y m 1 + d - 1 + 6) ⟨a1, a2⟩
  have HT : ∃ T : Int, T = Cal.num y m 1 + d - 1 + 6 - Day.back a (Cal.num y m 1 + d - 1 + 6) := ⟨_, rfl⟩
  obtain ⟨T, hT⟩ := HT
  rw [← hT] at bw
  have HTT := Lib.hid (show Day.on 3 a d (Day.fst y m) (Day.lst y m) = T from hT.symm)
  have t1 : T ≤ Cal.num y m 1 + d - 1 + 6 := by omega
  have t2 : Cal.num y m 1 + d - 1 + 6 - 6 ≤ T := by omega
  clear hT bk
  unfold Day.wd at bw
  have BW := Lib.hid bw
  clear bw
  go_enter Tryd.func10, Tryd.ntmps10
  go_wp2_with (first | (go_at_call 27; refine (rin2_any _ _ _ _).mono ?_; rintro e w' ⟨rfl, rfl⟩) | (go_at_call 12; refine (rcheck2_any _ _ _ _).mono ?_; rintro e w1 ⟨rfl, hb⟩; have c0 := hb.cell (p := ⟨w.heap.size, 0, none⟩) (by simp); have c1 := hb.cell (p := ⟨w.heap.size, 1, none⟩) (by simp); have c2 := hb.cell (p := ⟨w.heap.size, 2, none⟩) (by simp); simp at c0 c1 c2; have HB := Lib.hid (below_then (w := w) (by repeat (first | exact HB.out | exact Below.refl _ _ | refine below_drewN ?_ _ | apply Below.drew | (refine (fun h1 h2 => Below.setCell h2 h1 _) ?_ ?_; (· first | (simp; done) | (simp; omega) | (have := HB.out.size; simp; omega) | (have := HB.out.size; omega))) | (refine (fun h1 h2 => Below.alloc h2 h1 _) ?_ ?_; (· first | (simp; done) | (simp; omega) | (have := HB.out.size; simp; omega) | (have := HB.out.size; omega))))) hb); clear hb; rw [HC.out]))
  go_quiet ((go_at_call 28; exact Calls.quiet_of_same ((rlen_any _ _ _).mono fun _ _ ⟨he, hw⟩ => ⟨he, hw.symm⟩)))
  go_wp2_with (first | (go_at_call 29; refine (rdays_ok y m 1 _ y1 y2 ok.out).mono ?_; rintro e w' ⟨rfl, rfl⟩) | (go_at_call 28; refine (rlen_any _ _ _).mono ?_; rintro e w' ⟨rfl, rfl⟩))
  go_loopw [10] (fun x wr => ∃ j : Int, Cal.num y m 1 + d - 1 ≤ j ∧ j ≤ T ∧ x = .int .i64 j ∧ ∃ n, wr = w1.drewN n) (fun x _ => (T - intOf x).toNat)
  case atStart => exact ⟨_, by omega, by omega, rfl, ⟨_, rfl⟩⟩
  case round =>
    obtain ⟨j, j1, j2, rfl, nr, hwr⟩ := hrel
    have c1r : wr.cell? ⟨w.heap.size, 1, none⟩ = some (.int .i64 a) := by rw [hwr]; exact c1
    have HW := Lib.hid hwr
    clear hwr
    by_cases hj : j < T
    · have qn : ((j + 4) % 7 != a) = true := by
        rw [bne_iff_ne]; have := BW.out; omega
      go_wp2
      go_quiet ((go_at_call 30; exact Calls.quiet_of_same ((rweekday_any _ _).mono fun _ _ ⟨he, hw⟩ => ⟨he, hw.symm⟩)))
      go_wp2
      go_roundw
      case rel => exact ⟨j + 1, by omega, by omega, rfl, _, by rw [HW.out, World.drewN_drewN]⟩
      case measure => simp [intOf]; omega
    · obtain rfl : j = T := by omega
      have qn : ((j + 4) % 7 != a) = false := by have := BW.out; simp; omega
      go_wp2
      go_quiet ((go_at_call 30; exact Calls.quiet_of_same ((rweekday_any _ _).mono fun _ _ ⟨he, hw⟩ => ⟨he, hw.symm⟩)))
      go_wp2
      go_ret2
      exact ⟨ret_pair HTT.out.symm rfl, by refine below_drewN ?_ _; rw [HW.out]; repeat (first | exact HB.out | exact Below.refl _ _ | refine below_drewN ?_ _ | apply Below.drew | (refine (fun h1 h2 => Below.setCell h2 h1 _) ?_ ?_; (· first | (simp; done) | (simp; omega) | (have := HB.out.size; simp; omega) | (have := HB.out.size; omega))) | (refine (fun h1 h2 => Below.alloc h2 h1 _) ?_ ?_; (· first | (simp; done) | (simp; omega) | (have := HB.out.size; simp; omega) | (have := HB.out.size; omega))))⟩

set_option maxHeartbeats 2000000 in
theorem ron_ok4 (y m a d : Int) (w : World) (h : Day.inB y m = true) (a1 : 0 ≤ a) (a2 : a ≤ 6) (d1 : 1 ≤ d) (d2 : d ≤ 31) (h2 : Day.okB 4 a d = true) (h4 : d ≤ Cal.len y m) :
    Calls Tryd.prog 10 #[.int .i64 y, .int .i64 m, .agg #[.int .i64 4, .int .i64 a, .int .i64 d]] w fun e w' => e = .returned (.tuple #[.int .i64 (Day.on 4 a d (Day.fst y m) (Day.lst y m)), .int .i64 0]) ∧ Below w.heap.size w w' := by
  have ok := Lib.hid (inB_ok h)
  have fb := Day.fst_bd h
  rw [Day.inB_iff] at h
  obtain ⟨y1, y2, m1, m2⟩ := h
  have lb := Cal.len_bd y m
  unfold Day.fst at fb
  have q := dec_tr (show 1 ≤ m ∧ m ≤ 12 from ⟨m1, m2⟩)
  have HC := Lib.hid (show Day.chk 4 a d = 0 by unfold Day.chk; rw [if_pos h2])
  clear h2
  have bk := Day.back_bd a (Cal.num y m 1 + d - 1)
  have bw := Day.back_wd (w := a) (n := Cal.num y m 1 + d - 1) ⟨a1, a2⟩
  have HT : ∃ T : Int, T = Cal.num y m 1 + d - 1 - Day.back a (Cal.num y m 1 + d - 1) := ⟨_, rfl⟩
  obtain ⟨T, hT⟩ := HT
  rw [← hT] at bw
  have HTT := Lib.hid (show Day.on 4 a d (Day.fst y m) (Day.lst y m) = T from hT.symm)
  have t1 : T ≤ Cal.num y m 1 + d - 1 := by omega
  have t2 : Cal.num y m 1 + d - 1 - 6 ≤ T := by omega
  clear hT bk
  unfold Day.wd at bw
  have BW := Lib.hid bw
  clear bw
  go_enter Tryd.func10, Tryd.ntmps10
  go_wp2_with (first | (go_at_call 27; refine (rin2_any _ _ _ _).mono ?_; rintro e w' ⟨rfl, rfl⟩) | (go_at_call 12; refine (rcheck2_any _ _ _ _).mono ?_; rintro e w1 ⟨rfl, hb⟩; have c0 := hb.cell (p := ⟨w.heap.size, 0, none⟩) (by simp); have c1 := hb.cell (p := ⟨w.heap.size, 1, none⟩) (by simp); have c2 := hb.cell (p := ⟨w.heap.size, 2, none⟩) (by simp); simp at c0 c1 c2; have HB := Lib.hid (below_then (w := w) (by repeat (first | exact HB.out | exact Below.refl _ _ | refine below_drewN ?_ _ | apply Below.drew | (refine (fun h1 h2 => Below.setCell h2 h1 _) ?_ ?_; (· first | (simp; done) | (simp; omega) | (have := HB.out.size; simp; omega) | (have := HB.out.size; omega))) | (refine (fun h1 h2 => Below.alloc h2 h1 _) ?_ ?_; (· first | (simp; done) | (simp; omega) | (have := HB.out.size; simp; omega) | (have := HB.out.size; omega))))) hb); clear hb; rw [HC.out]))
  go_quiet ((go_at_call 28; exact Calls.quiet_of_same ((rlen_any _ _ _).mono fun _ _ ⟨he, hw⟩ => ⟨he, hw.symm⟩)))
  go_wp2_with (first | (go_at_call 29; refine (rdays_ok y m 1 _ y1 y2 ok.out).mono ?_; rintro e w' ⟨rfl, rfl⟩) | (go_at_call 28; refine (rlen_any _ _ _).mono ?_; rintro e w' ⟨rfl, rfl⟩))
  go_loopw [11] (fun x wr => ∃ j : Int, T ≤ j ∧ j ≤ Cal.num y m 1 + d - 1 ∧ x = .int .i64 j ∧ ∃ n, wr = w1.drewN n) (fun x _ => (intOf x - T).toNat)
  case atStart => exact ⟨_, by omega, by omega, rfl, ⟨_, rfl⟩⟩
  case round =>
    obtain ⟨j, j1, j2, rfl, nr, hwr⟩ := hrel
    have c1r : wr.cell? ⟨w.heap.size, 1, none⟩ = some (.int .i64 a) := by rw [hwr]; exact c1
    have HW := Lib.hid hwr
    clear hwr
    by_cases hj : T < j
    · have qn : ((j + 4) % 7 != a) = true := by
        rw [bne_iff_ne]; have := BW.out; omega
      go_wp2
      go_quiet ((go_at_call 30; exact Calls.quiet_of_same ((rweekday_any _ _).mono fun _ _ ⟨he, hw⟩ => ⟨he, hw.symm⟩)))
      go_wp2
      go_roundw
      case rel => exact ⟨j - 1, by omega, by omega, rfl, _, by rw [HW.out, World.drewN_drewN]⟩
      case measure => simp [intOf]; omega
    · obtain rfl : j = T := by omega
      have qn : ((j + 4) % 7 != a) = false := by have := BW.out; simp; omega
      go_wp2
      go_quiet ((go_at_call 30; exact Calls.quiet_of_same ((rweekday_any _ _).mono fun _ _ ⟨he, hw⟩ => ⟨he, hw.symm⟩)))
      go_wp2
      go_ret2
      exact ⟨ret_pair HTT.out.symm rfl, by refine below_drewN ?_ _; rw [HW.out]; repeat (first | exact HB.out | exact Below.refl _ _ | refine below_drewN ?_ _ | apply Below.drew | (refine (fun h1 h2 => Below.setCell h2 h1 _) ?_ ?_; (· first | (simp; done) | (simp; omega) | (have := HB.out.size; simp; omega) | (have := HB.out.size; omega))) | (refine (fun h1 h2 => Below.alloc h2 h1 _) ?_ ?_; (· first | (simp; done) | (simp; omega) | (have := HB.out.size; simp; omega) | (have := HB.out.size; omega))))⟩

theorem ron_any (y m k a d : Int) (w : World) :
    Calls Tryd.prog 10 #[.int .i64 y, .int .i64 m, .agg #[.int .i64 k, .int .i64 a, .int .i64 d]] w fun e w' => e = .returned (.tuple #[.int .i64 (Day.onV y m k a d), .int .i64 (Day.onE y m k a d)]) ∧ Below w.heap.size w w' := by
  cases hi : Day.inB y m
  · have hE := Day.onE_range (k := k) (w := a) (d := d) hi
    rw [Day.onV_bad (by omega), hE]
    exact ron_range y m k a d w hi
  cases ho : Day.okB k a d
  · have hE := Day.onE_arg hi ho
    rw [Day.onV_bad (by omega), hE]
    exact ron_arg y m k a d w hi ho
  have ho' := ho
  rw [Day.okB_iff] at ho'
  by_cases hn : Cal.len y m < d
  · have hE := Day.onE_none hi ho hn
    rw [Day.onV_bad (by omega), hE]
    exact ron_none y m k a d w hi ho hn
  · have hE := Day.onE_ok hi ho hn
    rw [Day.onV_ok hE, hE]
    rcases ho' with ⟨rfl, rfl, d1, d2⟩ | ⟨rfl, a1, a2, rfl⟩ | ⟨rfl | rfl, a1, a2, d1, d2⟩
    · exact ron_ok1 y m d w hi d1 d2 ho (by omega)
    · exact ron_ok2 y m a w hi a1 a2 ho (by omega)
    · exact ron_ok3 y m a d w hi a1 a2 d1 d2 ho (by omega)
    · exact ron_ok4 y m a d w hi a1 a2 d1 d2 ho (by omega)
end Go.Proofs.YtljbgkfoljjgbaaDoor
