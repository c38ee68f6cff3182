/-
  Big-endian numbers: the two agree.
-/
import Derived.Test.YtljbgkfoljjgbaaMNumbig
namespace Go.Proofs.Ytljbgkfoljjgbaa
open Go.Ax Go.Lib
set_option linter.all false
set_option maxHeartbeats 8000000
attribute [local congr] cond_cong bind_cong onI_cong onB_cong onS_cong onN_cong onL_cong

theorem num_same {bs pb gb : List UInt8} {a s x e1 g e2 e3 : Int} (hb : bs.length ≤ 200)
    (P : F_bigend_Put [.n bs.length, .l (bc bs), .i s, .i x] = some [.n pb.length, .l (bc pb), .i e1])
    (R : F_ref41_Put [.n bs.length, .l (bc bs), .i s, .i x] = some [.n pb.length, .l (bc pb), .i e1])
    (G : F_bigend_Get [.n bs.length, .l (bc bs), .i a, .i s] = some [.i g, .i e2])
    (H : F_ref41_Get [.n bs.length, .l (bc bs), .i a, .i s] = some [.i g, .i e2])
    (B : F_bigend_Bytes [.n bs.length, .l (bc bs), .i a, .i s] = some [.n gb.length, .l (bc gb), .i e3])
    (C : F_ref41_Bytes [.n bs.length, .l (bc bs), .i a, .i s] = some [.n gb.length, .l (bc gb), .i e3]) :
    F_law41_BigendNumbers [.n bs.length, .l (bc bs), .i a, .i s, .i x] = some [.b true] := by
  have c1 := clone1 (bs := bs) (by omega)
  have q1 := equal_at (a := pb) (b := pb) rfl rfl
  have q2 := equal_at (a := gb) (b := gb) rfl rfl
  have q3 := equal_at (a := bs) (b := bs) rfl rfl
  rw [beq_self_eq_true] at q1 q2 q3
  unfold F_law41_BigendNumbers
  simp (disch := omega) only [onI_c, onS_c, onB_c, onN_c, onL_c, Option.bind_some, Option.map_some, cond_true, cond_false, ↓onI_c, ↓onS_c, ↓onB_c, ↓onN_c, ↓onL_c, ↓Option.bind_some, ↓cond_true, ↓cond_false, decide_eq_true, decide_eq_false, Bool.not_true, Bool.not_false, Int.toNat_natCast, List.length_append, List.length_cons, List.length_nil, List.drop_zero, Nat.zero_add, Nat.add_zero, decT, decF, bneI_t, bneI_f, c1, P, R, G, H, B, C, q1, q2, q3, bigworks_at]
theorem refput_no {n : Nat} {l : List AV} {s x : Int} (h : s ≠ 1 ∧ s ≠ 4 ∧ s ≠ 8) : F_ref41_Put [.n n, .l l, .i s, .i x] = some [.n 0, .l [], .i 2] := by
  have hs := rsize_no h
  unfold F_ref41_Put
  simp (disch := omega) only [onI_c, onS_c, onB_c, onN_c, onL_c, Option.bind_some, Option.map_some, cond_true, cond_false, ↓onI_c, ↓onS_c, ↓onB_c, ↓onN_c, ↓onL_c, ↓Option.bind_some, ↓cond_true, ↓cond_false, decide_eq_true, decide_eq_false, Bool.not_true, Bool.not_false, Int.toNat_natCast, List.length_append, List.length_cons, List.length_nil, List.drop_zero, Nat.zero_add, Nat.add_zero, decT, decF, bneI_t, bneI_f, hs]
theorem put_no {n : Nat} {l : List AV} {s x : Int} (h : s ≠ 1 ∧ s ≠ 4 ∧ s ≠ 8) : F_bigend_Put [.n n, .l l, .i s, .i x] = some [.n 0, .l [], .i 2] := by
  have hs := size_no h
  unfold F_bigend_Put
  simp (disch := omega) only [onI_c, onS_c, onB_c, onN_c, onL_c, Option.bind_some, Option.map_some, cond_true, cond_false, ↓onI_c, ↓onS_c, ↓onB_c, ↓onN_c, ↓onL_c, ↓Option.bind_some, ↓cond_true, ↓cond_false, decide_eq_true, decide_eq_false, Bool.not_true, Bool.not_false, Int.toNat_natCast, List.length_append, List.length_cons, List.length_nil, List.drop_zero, Nat.zero_add, Nat.add_zero, decT, decF, bneI_t, bneI_f, hs]
theorem get_no {n : Nat} {l : List AV} {a s : Int} (h : s ≠ 1 ∧ s ≠ 4 ∧ s ≠ 8) : F_bigend_Get [.n n, .l l, .i a, .i s] = some [.i 0, .i 2] := by
  have hs := size_no h
  unfold F_bigend_Get
  simp (disch := omega) only [onI_c, onS_c, onB_c, onN_c, onL_c, Option.bind_some, Option.map_some, cond_true, cond_false, ↓onI_c, ↓onS_c, ↓onB_c, ↓onN_c, ↓onL_c, ↓Option.bind_some, ↓cond_true, ↓cond_false, decide_eq_true, decide_eq_false, Bool.not_true, Bool.not_false, Int.toNat_natCast, List.length_append, List.length_cons, List.length_nil, List.drop_zero, Nat.zero_add, Nat.add_zero, decT, decF, bneI_t, bneI_f, hs]
theorem rget_no {n : Nat} {l : List AV} {a s : Int} (h : s ≠ 1 ∧ s ≠ 4 ∧ s ≠ 8) : F_ref41_Get [.n n, .l l, .i a, .i s] = some [.i 0, .i 2] := by
  have hs := rsize_no h
  unfold F_ref41_Get
  simp (disch := omega) only [onI_c, onS_c, onB_c, onN_c, onL_c, Option.bind_some, Option.map_some, cond_true, cond_false, ↓onI_c, ↓onS_c, ↓onB_c, ↓onN_c, ↓onL_c, ↓Option.bind_some, ↓cond_true, ↓cond_false, decide_eq_true, decide_eq_false, Bool.not_true, Bool.not_false, Int.toNat_natCast, List.length_append, List.length_cons, List.length_nil, List.drop_zero, Nat.zero_add, Nat.add_zero, decT, decF, bneI_t, bneI_f, hs]
theorem get_out {n : Nat} {l : List AV} {a s : Int} (h : s = 1 ∨ s = 4 ∨ s = 8) (ho : ¬ (0 ≤ a ∧ a ≤ n ∧ s ≤ n - a)) (hn : n ≤ 1000000) : F_bigend_Get [.n n, .l l, .i a, .i s] = some [.i 0, .i 19] := by
  have hs := size_at h
  have hin := inside_no (l := l) ho hn
  unfold F_bigend_Get
  simp (disch := omega) only [onI_c, onS_c, onB_c, onN_c, onL_c, Option.bind_some, Option.map_some, cond_true, cond_false, ↓onI_c, ↓onS_c, ↓onB_c, ↓onN_c, ↓onL_c, ↓Option.bind_some, ↓cond_true, ↓cond_false, decide_eq_true, decide_eq_false, Bool.not_true, Bool.not_false, Int.toNat_natCast, List.length_append, List.length_cons, List.length_nil, List.drop_zero, Nat.zero_add, Nat.add_zero, decT, decF, bneI_t, bneI_f, hs, hin]
theorem rget_out {n : Nat} {l : List AV} {a s : Int} (h : s = 1 ∨ s = 4 ∨ s = 8) (ho : ¬ (0 ≤ a ∧ a ≤ n ∧ s ≤ n - a)) (hn : n ≤ 1000000) : F_ref41_Get [.n n, .l l, .i a, .i s] = some [.i 0, .i 19] := by
  have hs := rsize_at h
  have hin := rbytes_out (l := l) (by omega) ho hn
  unfold F_ref41_Get
  simp (disch := omega) only [onI_c, onS_c, onB_c, onN_c, onL_c, Option.bind_some, Option.map_some, cond_true, cond_false, ↓onI_c, ↓onS_c, ↓onB_c, ↓onN_c, ↓onL_c, ↓Option.bind_some, ↓cond_true, ↓cond_false, decide_eq_true, decide_eq_false, Bool.not_true, Bool.not_false, Int.toNat_natCast, List.length_append, List.length_cons, List.length_nil, List.drop_zero, Nat.zero_add, Nat.add_zero, decT, decF, bneI_t, bneI_f, hs, hin]
theorem refput_at {s : Nat} {x : Int} {bs : List UInt8} (h : s = 1 ∨ s = 4 ∨ s = 8) (hb : bs.length ≤ 100000) (hx : -9223372036854775808 ≤ x ∧ x < 9223372036854775808) :
    F_ref41_Put [.n bs.length, .l (bc bs), .i (s : Int), .i x] = some (if x / 2 ^ (8 * s - 1) = 0 ∨ x / 2 ^ (8 * s - 1) = -1 then [.n (bs.length + s), .l (bc (bs ++ enc s x)), .i 0] else [.n 0, .l [], .i 3]) := by
  have hs := rsize_at (s := (s : Int)) (by omega)
  have hend := refput_end (s := s) (x := x) (bs := bs) h hb hx
  have hrun := refput_run (s := s) (x := x) (bn := bs.length) (bl := bc bs) (by omega) s 0 (by omega)
  have e1 : i64 ((s : Int) - 1) = (s : Int) - 1 := i64_in _ (by omega)
  have e2 : listC s [(Ax.AV.int .u8 (Ax.I.lit 0))] = zs s := rfl
  have e3 : (zs s).all (closedN 20) = true := zs_closed s
  have e4 : zs s ++ bc (enc 0 x) = zs s := List.append_nil _
  have e5 : x / 2 ^ (8 * 0) = x := by show x / 1 = x; omega
  rw [e4, e5, iter_end hend] at hrun
  unfold F_ref41_Put
  simp (disch := omega) only [onI_c, onS_c, onB_c, onN_c, onL_c, Option.bind_some, Option.map_some, cond_true, cond_false, ↓onI_c, ↓onS_c, ↓onB_c, ↓onN_c, ↓onL_c, ↓Option.bind_some, ↓cond_true, ↓cond_false, decide_eq_true, decide_eq_false, Bool.not_true, Bool.not_false, Int.toNat_natCast, List.length_append, List.length_cons, List.length_nil, List.drop_zero, Nat.zero_add, Nat.add_zero, decT, decF, bneI_t, bneI_f, hs, e1, e2, e3]
  exact hrun
theorem lawP_BigendNumbers {e : Nat} (he : tks tau 12 e = some [.int .u8]) {dats : List Dat} (h : DatOk tau [.slice e, .int .i64, .int .i64, .int .i64] dats) : F_law41_BigendNumbers dats = some [.b true] := by
  obtain ⟨n, c, r, rfl, hc, a, r, rfl, ha, s, r, rfl, hs, x, r, rfl, hx, rfl⟩ := h
  obtain ⟨bs, rfl, rfl⟩ := cells_bc he hc
  have ha := wf_i64 ha
  have hs := wf_i64 hs
  have hx := wf_i64 hx
  by_cases hb : bs.length ≤ 200
  · by_cases h3 : s = 1 ∨ s = 4 ∨ s = 8
    · obtain ⟨t, rfl⟩ : ∃ t : Nat, s = t := ⟨s.toNat, by omega⟩
      have ht : t = 1 ∨ t = 4 ∨ t = 8 := by omega
      have R := refput_at (s := t) (x := x) (bs := bs) ht (by omega) (by omega)
      have hP : ∃ pb : List UInt8, ∃ e1 : Int, F_bigend_Put [.n bs.length, .l (bc bs), .i (t : Int), .i x] = some [.n pb.length, .l (bc pb), .i e1] ∧ F_ref41_Put [.n bs.length, .l (bc bs), .i (t : Int), .i x] = some [.n pb.length, .l (bc pb), .i e1] := by
        by_cases hq : x / 2 ^ (8 * t - 1) = 0 ∨ x / 2 ^ (8 * t - 1) = -1
        · rw [if_pos hq] at R
          have P := put_at (s := t) (x := x) (bs := bs) ht (by omega) hq
          have el : (bs ++ enc t x).length = bs.length + t := by rw [List.length_append, enc_len]
          exact ⟨bs ++ enc t x, 0, by rw [el]; exact P, by rw [el]; exact R⟩
        · rw [if_neg hq] at R
          exact ⟨[], 3, put_out ht (fun q => hq (.inl q)) (fun q => hq (.inr q)), R⟩
      obtain ⟨pb, e1, P, R⟩ := hP
      by_cases hin : 0 ≤ a ∧ a ≤ (bs.length : Int) ∧ (t : Int) ≤ (bs.length : Int) - a
      · obtain ⟨k, rfl⟩ : ∃ k : Nat, a = k := ⟨a.toNat, by omega⟩
        have hk : k + t ≤ bs.length := by omega
        have el : ((bs.drop k).take t).length = t := by simp; omega
        have B := bytes_in (a := k) (m := t) hk (by omega)
        have C := rbytes_in (a := k) (m := t) hk (by omega)
        exact num_same (gb := (bs.drop k).take t) hb P R (getp_at ht (by omega) hk) (getr_at ht (by omega) hk) (by rw [el]; exact B) (by rw [el]; exact C)
      · exact num_same (gb := []) hb P R (get_out h3 hin (by omega)) (rget_out h3 hin (by omega)) (bytes_out (by omega) hin (by omega)) (rbytes_out (by omega) hin (by omega))
    · have h3 : s ≠ 1 ∧ s ≠ 4 ∧ s ≠ 8 := by omega
      by_cases hneg : s < 0
      · exact num_same (pb := []) (gb := []) hb (put_no h3) (refput_no h3) (get_no h3) (rget_no h3) (bytes_neg hneg) (rbytes_neg hneg)
      · by_cases hin : 0 ≤ a ∧ a ≤ (bs.length : Int) ∧ s ≤ (bs.length : Int) - a
        · obtain ⟨k, rfl⟩ : ∃ k : Nat, a = k := ⟨a.toNat, by omega⟩
          obtain ⟨t, rfl⟩ : ∃ t : Nat, s = t := ⟨s.toNat, by omega⟩
          have hk : k + t ≤ bs.length := by omega
          have el : ((bs.drop k).take t).length = t := by simp; omega
          have B := bytes_in (a := k) (m := t) hk (by omega)
          have C := rbytes_in (a := k) (m := t) hk (by omega)
          exact num_same (pb := []) (gb := (bs.drop k).take t) hb (put_no h3) (refput_no h3) (get_no h3) (rget_no h3) (by rw [el]; exact B) (by rw [el]; exact C)
        · exact num_same (pb := []) (gb := []) hb (put_no h3) (refput_no h3) (get_no h3) (rget_no h3) (bytes_out (by omega) hin (by omega)) (rbytes_out (by omega) hin (by omega))
  · unfold F_law41_BigendNumbers
    simp (disch := omega) only [onI_c, onS_c, onB_c, onN_c, onL_c, Option.bind_some, Option.map_some, cond_true, cond_false, ↓onI_c, ↓onS_c, ↓onB_c, ↓onN_c, ↓onL_c, ↓Option.bind_some, ↓cond_true, ↓cond_false, decide_eq_true, decide_eq_false, Bool.not_true, Bool.not_false, Int.toNat_natCast, List.length_append, List.length_cons, List.length_nil, List.drop_zero, Nat.zero_add, Nat.add_zero, decT, decF, bneI_t, bneI_f, bigworks_at]
end Go.Proofs.Ytljbgkfoljjgbaa
