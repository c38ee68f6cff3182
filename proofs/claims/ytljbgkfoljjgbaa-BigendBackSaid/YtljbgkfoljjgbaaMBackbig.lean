/-
  Big-endian numbers: they are read again.
-/
import Derived.Test.YtljbgkfoljjgbaaMGetbig
namespace Go.Proofs.Ytljbgkfoljjgbaa
open Go.Ax Go.Lib
set_option linter.all false
set_option maxHeartbeats 8000000
attribute [local congr] cond_cong bind_cong onI_cong onB_cong onS_cong onN_cong onL_cong

theorem sizes_at : F_law41_sizes [] = some [.n 3, .l [(Ax.AV.int .i64 (Ax.I.lit 1)), (Ax.AV.int .i64 (Ax.I.lit 4)), (Ax.AV.int .i64 (Ax.I.lit 8))]] := rfl
theorem back_one {s : Nat} {w x : Int} {bs : List UInt8} (hw : 0 ≤ w ∧ w ≤ 255) (hx : -9223372036854775808 ≤ x ∧ x < 9223372036854775808)
    (hs : (s = 1 ∧ w % 3 = 0) ∨ (s = 4 ∧ w % 3 = 1) ∨ (s = 8 ∧ w % 3 = 2)) : F_law41_BigendBack [.n bs.length, .l (bc bs), .i x, .i w] = some [.b true] := by
  have hs3 : s = 1 ∨ s = 4 ∨ s = 8 := by omega
  have e0 : Int.tmod w 3 = w % 3 := tmod_nn hw.1
  have ex : asI .i64 (([(Ax.AV.int .i64 (Ax.I.lit 1)), (Ax.AV.int .i64 (Ax.I.lit 4)), (Ax.AV.int .i64 (Ax.I.lit 8))] : List AV)[(w % 3).toNat]?) = some (s : Int) := by
    rcases hs with ⟨rfl, q⟩ | ⟨rfl, q⟩ | ⟨rfl, q⟩ <;> rw [q] <;> rfl
  have hw3 : 0 ≤ w % 3 ∧ w % 3 < 3 := by omega
  generalize w % 3 = v at *
  obtain ⟨p, hp⟩ : ∃ p : Nat, (if 50 < ((bs.length : Nat) : Int) then 50 else ((bs.length : Nat) : Int)) = p := ⟨(if 50 < ((bs.length : Nat) : Int) then 50 else ((bs.length : Nat) : Int)).toNat, by split <;> omega⟩
  have hp1 : p ≤ bs.length ∧ p ≤ 50 := by split at hp <;> omega
  have hl := bc_len bs
  have et : List.take p (bc bs) = bc (bs.take p) := bc_take p bs
  have el : (bs.take p).length = p := by rw [List.length_take]; omega
  have pt := put_at (s := s) (x := x) (bs := bs.take p) hs3 (by omega)
  have po := put_out (s := s) (x := x) (n := p) (l := bc (bs.take p)) hs3
  have gt := get_at (s := s) (x := x) (pre := bs.take p) hs3 (by omega) hx
  rw [el] at pt gt
  have eb : F_bytes_Equal [.n p, .l (bc (bs.take p)), .n p, .l (bc (bs.take p))] = some [.b true] := by
    rw [equal_at el.symm el.symm, beq_self_eq_true]
  have et2 : List.take p (bc (bs.take p ++ enc s x)) = bc (bs.take p) := by
    rw [bc_take, List.take_append_of_le_length (by omega), List.take_of_length_le (by omega)]
  have e1 : i64 (i64 (8 * (s : Int)) - 1) = ((8 * s - 1 : Nat) : Int) := by rw [i64_in (8 * _) (by omega), i64_in _ (by omega)]; omega
  have e2 : i64 ((p : Int) + (s : Int)) = ((p + s : Nat) : Int) := by rw [i64_in _ (by omega)]; omega
  have el2 : (bc (bs.take p ++ enc s x)).length = p + s := by rw [bc_len, List.length_append, el, enc_len]
  have e3 : (((p + s : Nat) : Int)) = ((p + s : Nat) : Int) := rfl
  have bt : (true == true) = true := rfl
  have bf : (false == false) = true := rfl
  have b1 : (true == false) = false := rfl
  have b2 : (false == true) = false := rfl
  -- the bounds of a size
  have hr : s ≠ 8 → (arith .shl .i64 (-1) ((8 * s - 1 : Nat) : Int) = -(2 : Int) ^ (8 * s - 1)) ∧ (arith .shl .i64 1 ((8 * s - 1 : Nat) : Int) = (2 : Int) ^ (8 * s - 1)) := by
    intro h8
    rcases hs3 with rfl | rfl | rfl
    · exact ⟨by rfl, by rfl⟩
    · exact ⟨by rfl, by rfl⟩
    · omega
  have hdiv : (x / 2 ^ (8 * s - 1) = 0 ∨ x / 2 ^ (8 * s - 1) = -1) ↔ (-(2 : Int) ^ (8 * s - 1) ≤ x ∧ x < (2 : Int) ^ (8 * s - 1)) := by
    rcases hs3 with rfl | rfl | rfl
    · show (x / 128 = 0 ∨ x / 128 = -1) ↔ (-128 ≤ x ∧ x < 128); omega
    · show (x / 2147483648 = 0 ∨ x / 2147483648 = -1) ↔ (-2147483648 ≤ x ∧ x < 2147483648); omega
    · show (x / 9223372036854775808 = 0 ∨ x / 9223372036854775808 = -1) ↔ (-9223372036854775808 ≤ x ∧ x < 9223372036854775808); omega
  have h8 : s = 8 → -(2 : Int) ^ (8 * s - 1) ≤ x ∧ x < (2 : Int) ^ (8 * s - 1) := by
    rintro rfl
    show -9223372036854775808 ≤ x ∧ x < 9223372036854775808
    omega
  have hpp := pow_pos2 (8 * s - 1)
  generalize (2 : Int) ^ (8 * s - 1) = M at *
  have hsi : (1 : Int) ≤ s ∧ (s : Int) ≤ 8 := by omega
  clear hs hx et2
  have et2 : List.take p (bc (bs.take p ++ enc s x)) = bc (bs.take p) := by
    rw [bc_take, List.take_append_of_le_length (by omega), List.take_of_length_le (by omega)]
  unfold F_law41_BigendBack
  by_cases hin : -M ≤ x ∧ x < M
  · have hin2 := hdiv.2 hin
    have pt := pt hin2
    have gt := gt hin2
    clear hdiv hin2 po h8
    obtain ⟨hi1, hi2⟩ := hin
    by_cases he : s = 8
    · subst he
      clear hr
      simp (disch := omega) only [onI_c, onS_c, onB_c, onN_c, onL_c, Option.bind_some, Option.map_some, cond_true, cond_false, ↓onI_c, ↓onS_c, ↓onB_c, ↓onN_c, ↓onL_c, ↓Option.bind_some, ↓cond_true, ↓cond_false, decide_eq_true, decide_eq_false, Bool.not_true, Bool.not_false, Int.toNat_natCast, List.length_append, List.length_cons, List.length_nil, List.drop_zero, Nat.zero_add, Nat.add_zero, decT, decF, bneI_t, bneI_f, sizes_at, e0, ex, hp, hl, et, pt, gt, bt, bf, b1, b2, e2, el2, et2, eb, bigworks_at]
    · obtain ⟨hr1, hr2⟩ := hr he
      clear hr
      simp (disch := omega) only [onI_c, onS_c, onB_c, onN_c, onL_c, Option.bind_some, Option.map_some, cond_true, cond_false, ↓onI_c, ↓onS_c, ↓onB_c, ↓onN_c, ↓onL_c, ↓Option.bind_some, ↓cond_true, ↓cond_false, decide_eq_true, decide_eq_false, Bool.not_true, Bool.not_false, Int.toNat_natCast, List.length_append, List.length_cons, List.length_nil, List.drop_zero, Nat.zero_add, Nat.add_zero, decT, decF, bneI_t, bneI_f, sizes_at, e0, ex, hp, hl, et, pt, gt, bt, bf, b1, b2, e1, e2, hr1, hr2, el2, et2, eb, bigworks_at]
  · have he : s ≠ 8 := fun q => hin (h8 q)
    obtain ⟨hr1, hr2⟩ := hr he
    have po := po (fun q => hin (hdiv.1 (.inl q))) (fun q => hin (hdiv.1 (.inr q)))
    clear hdiv h8 hr pt gt
    by_cases hlo : -M ≤ x
    · simp (disch := omega) only [onI_c, onS_c, onB_c, onN_c, onL_c, Option.bind_some, Option.map_some, cond_true, cond_false, ↓onI_c, ↓onS_c, ↓onB_c, ↓onN_c, ↓onL_c, ↓Option.bind_some, ↓cond_true, ↓cond_false, decide_eq_true, decide_eq_false, Bool.not_true, Bool.not_false, Int.toNat_natCast, List.length_append, List.length_cons, List.length_nil, List.drop_zero, Nat.zero_add, Nat.add_zero, decT, decF, bneI_t, bneI_f, sizes_at, e0, ex, hp, hl, et, po, bt, bf, b1, b2, e1, hr1, hr2, bigworks_at]
    · simp (disch := omega) only [onI_c, onS_c, onB_c, onN_c, onL_c, Option.bind_some, Option.map_some, cond_true, cond_false, ↓onI_c, ↓onS_c, ↓onB_c, ↓onN_c, ↓onL_c, ↓Option.bind_some, ↓cond_true, ↓cond_false, decide_eq_true, decide_eq_false, Bool.not_true, Bool.not_false, Int.toNat_natCast, List.length_append, List.length_cons, List.length_nil, List.drop_zero, Nat.zero_add, Nat.add_zero, decT, decF, bneI_t, bneI_f, sizes_at, e0, ex, hp, hl, et, po, bt, bf, b1, b2, e1, hr1, hr2, bigworks_at]
theorem lawP_BigendBack {e : Nat} (he : tks tau 12 e = some [.int .u8]) {dats : List Dat} (h : DatOk tau [.slice e, .int .i64, .int .u8] dats) : F_law41_BigendBack dats = some [.b true] := by
  obtain ⟨n, c, r, rfl, hc, x, r, rfl, hx, w, r, rfl, hw, rfl⟩ := h
  obtain ⟨bs, rfl, rfl⟩ := cells_bc he hc
  have hw := wf_u8 hw
  have hx := wf_i64 hx
  have h3 : w % 3 = 0 ∨ w % 3 = 1 ∨ w % 3 = 2 := by omega
  rcases h3 with h3 | h3 | h3
  · exact back_one (s := 1) hw (by omega) (.inl ⟨rfl, h3⟩)
  · exact back_one (s := 4) hw (by omega) (.inr (.inl ⟨rfl, h3⟩))
  · exact back_one (s := 8) hw (by omega) (.inr (.inr ⟨rfl, h3⟩))
end Go.Proofs.Ytljbgkfoljjgbaa
