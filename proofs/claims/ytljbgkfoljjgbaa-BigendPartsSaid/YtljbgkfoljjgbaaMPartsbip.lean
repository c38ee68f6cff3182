/-
  Big-endian numbers: a number of 8 bytes is two of 4.
-/
import Derived.Test.YtljbgkfoljjgbaaMNumAbip
namespace Go.Proofs.Ytljbgkfoljjgbaa
open Go.Ax Go.Lib
set_option linter.all false
set_option maxHeartbeats 8000000
attribute [local congr] cond_cong bind_cong onI_cong onB_cong onS_cong onN_cong onL_cong

theorem one_get (x : Int) {i : Nat} (h : i < 8) : F_bigend_Get [.n 8, .l (bc (enc 8 x)), .i (i : Int), .i 1] = some [.i (gval [byteAt x (7 - i)]), .i 0] := by
  have := getp_at (s := 1) (a := i) (bs := enc 8 x) (.inl rfl) (by rw [enc_len]; omega) (by rw [enc_len]; omega)
  rw [one_at x h, enc_len] at this
  exact this
theorem one_bytes (x : Int) {i : Nat} (h : i < 8) : F_bigend_Bytes [.n 8, .l (bc (enc 8 x)), .i (i : Int), .i 1] = some [.n 1, .l (bc [byteAt x (7 - i)]), .i 0] := by
  have := bytes_in (a := i) (m := 1) (bs := enc 8 x) (by rw [enc_len]; omega) (by rw [enc_len]; omega)
  rw [one_at x h, enc_len] at this
  exact this
theorem cell_at0 (c : UInt8) : asI .u8 ((bc [c])[0]?) = some (c.toNat : Int) := bc_get (by simp)
theorem lawP_BigendParts {dats : List Dat} (h : DatOk tau [.int .i64] dats) : F_law41_BigendParts dats = some [.b true] := by
  obtain ⟨x, r, rfl, hx, rfl⟩ := h
  have hx := wf_i64 hx
  have p : F_bigend_Put [.n 0, .l [], .i 8, .i x] = some [.n 8, .l (bc (enc 8 x)), .i 0] :=
    put_at (s := 8) (x := x) (bs := []) (.inr (.inr rfl)) (by simp) (by show x / 9223372036854775808 = 0 ∨ x / 9223372036854775808 = -1; omega)
  have gh : F_bigend_Get [.n 8, .l (bc (enc 8 x)), .i 0, .i 4] = some [.i (x / 2 ^ 32), .i 0] := by
    have := getp_at (s := 4) (a := 0) (bs := enc 8 x) (.inr (.inl rfl)) (by rw [enc_len]; omega) (by rw [enc_len]; omega)
    rw [high_at (by omega), enc_len] at this
    exact this
  have gl : F_bigend_Get [.n 8, .l (bc (enc 8 x)), .i 4, .i 4] = some [.i (gval (((enc 8 x).drop 4).take 4)), .i 0] := by
    have := getp_at (s := 4) (a := 4) (bs := enc 8 x) (.inr (.inl rfl)) (by rw [enc_len]; omega) (by rw [enc_len]; omega)
    rw [enc_len] at this
    exact this
  have lo := low_at x
  have hi : arith .shr .i64 x 32 = x / 2 ^ 32 := shr_at x (k := 32) (by omega)
  have g0 : F_bigend_Get [.n 8, .l (bc (enc 8 x)), .i 0, .i 1] = some [.i (gval [byteAt x 7]), .i 0] := one_get x (i := 0) (by omega)
  have b0 : F_bigend_Bytes [.n 8, .l (bc (enc 8 x)), .i 0, .i 1] = some [.n 1, .l (bc [byteAt x 7]), .i 0] := one_bytes x (i := 0) (by omega)
  have c0 : u8 (arith .shr .i64 x 56) = ((byteAt x 7).toNat : Int) := cell_one x (k := 7) (by omega)
  have g1 : F_bigend_Get [.n 8, .l (bc (enc 8 x)), .i 1, .i 1] = some [.i (gval [byteAt x 6]), .i 0] := one_get x (i := 1) (by omega)
  have b1 : F_bigend_Bytes [.n 8, .l (bc (enc 8 x)), .i 1, .i 1] = some [.n 1, .l (bc [byteAt x 6]), .i 0] := one_bytes x (i := 1) (by omega)
  have c1 : u8 (arith .shr .i64 x 48) = ((byteAt x 6).toNat : Int) := cell_one x (k := 6) (by omega)
  have g2 : F_bigend_Get [.n 8, .l (bc (enc 8 x)), .i 2, .i 1] = some [.i (gval [byteAt x 5]), .i 0] := one_get x (i := 2) (by omega)
  have b2 : F_bigend_Bytes [.n 8, .l (bc (enc 8 x)), .i 2, .i 1] = some [.n 1, .l (bc [byteAt x 5]), .i 0] := one_bytes x (i := 2) (by omega)
  have c2 : u8 (arith .shr .i64 x 40) = ((byteAt x 5).toNat : Int) := cell_one x (k := 5) (by omega)
  have g3 : F_bigend_Get [.n 8, .l (bc (enc 8 x)), .i 3, .i 1] = some [.i (gval [byteAt x 4]), .i 0] := one_get x (i := 3) (by omega)
  have b3 : F_bigend_Bytes [.n 8, .l (bc (enc 8 x)), .i 3, .i 1] = some [.n 1, .l (bc [byteAt x 4]), .i 0] := one_bytes x (i := 3) (by omega)
  have c3 : u8 (arith .shr .i64 x 32) = ((byteAt x 4).toNat : Int) := cell_one x (k := 4) (by omega)
  have g4 : F_bigend_Get [.n 8, .l (bc (enc 8 x)), .i 4, .i 1] = some [.i (gval [byteAt x 3]), .i 0] := one_get x (i := 4) (by omega)
  have b4 : F_bigend_Bytes [.n 8, .l (bc (enc 8 x)), .i 4, .i 1] = some [.n 1, .l (bc [byteAt x 3]), .i 0] := one_bytes x (i := 4) (by omega)
  have c4 : u8 (arith .shr .i64 x 24) = ((byteAt x 3).toNat : Int) := cell_one x (k := 3) (by omega)
  have g5 : F_bigend_Get [.n 8, .l (bc (enc 8 x)), .i 5, .i 1] = some [.i (gval [byteAt x 2]), .i 0] := one_get x (i := 5) (by omega)
  have b5 : F_bigend_Bytes [.n 8, .l (bc (enc 8 x)), .i 5, .i 1] = some [.n 1, .l (bc [byteAt x 2]), .i 0] := one_bytes x (i := 5) (by omega)
  have c5 : u8 (arith .shr .i64 x 16) = ((byteAt x 2).toNat : Int) := cell_one x (k := 2) (by omega)
  have g6 : F_bigend_Get [.n 8, .l (bc (enc 8 x)), .i 6, .i 1] = some [.i (gval [byteAt x 1]), .i 0] := one_get x (i := 6) (by omega)
  have b6 : F_bigend_Bytes [.n 8, .l (bc (enc 8 x)), .i 6, .i 1] = some [.n 1, .l (bc [byteAt x 1]), .i 0] := one_bytes x (i := 6) (by omega)
  have c6 : u8 (arith .shr .i64 x 8) = ((byteAt x 1).toNat : Int) := cell_one x (k := 1) (by omega)
  have g7 : F_bigend_Get [.n 8, .l (bc (enc 8 x)), .i 7, .i 1] = some [.i (gval [byteAt x 0]), .i 0] := one_get x (i := 7) (by omega)
  have b7 : F_bigend_Bytes [.n 8, .l (bc (enc 8 x)), .i 7, .i 1] = some [.n 1, .l (bc [byteAt x 0]), .i 0] := one_bytes x (i := 7) (by omega)
  have c7 : u8 (arith .shr .i64 x 0) = ((byteAt x 0).toNat : Int) := cell_one x (k := 0) (by omega)
  have c3b : u8 (x / 2 ^ 32) = ((byteAt x 4).toNat : Int) := by rw [← hi]; exact c3
  clear hx
  generalize gval (((enc 8 x).drop 4).take 4) = low at *
  generalize (x / 2 ^ 32) = high at *
  generalize enc 8 x = bs at *
  unfold F_law41_BigendParts
  simp (disch := omega) only [onI_c, onS_c, onB_c, onN_c, onL_c, Option.bind_some, Option.map_some, cond_true, cond_false, ↓onI_c, ↓onS_c, ↓onB_c, ↓onN_c, ↓onL_c, ↓Option.bind_some, ↓cond_true, ↓cond_false, decide_eq_true, decide_eq_false, Bool.not_true, Bool.not_false, Int.toNat_natCast, List.length_append, List.length_cons, List.length_nil, List.drop_zero, Nat.zero_add, Nat.add_zero, decT, decF, bneI_t, bneI_f, p, gh, gl, hi, lo, g0, b0, c0, g1, b1, c1, g2, b2, c2, g3, b3, c3b, g4, b4, c4, g5, b5, c5, g6, b6, c6, g7, b7, c7, cell_at0, gval_one, bigworks_at]
end Go.Proofs.Ytljbgkfoljjgbaa
