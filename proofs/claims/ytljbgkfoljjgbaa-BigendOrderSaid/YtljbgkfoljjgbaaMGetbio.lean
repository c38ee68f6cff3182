/-
  Big-endian numbers that are read.
-/
import Derived.Test.YtljbgkfoljjgbaaMBigbio
namespace Go.Proofs.Ytljbgkfoljjgbaa
open Go.Ax Go.Lib
set_option linter.all false
set_option maxHeartbeats 8000000
attribute [local congr] cond_cong bind_cong onI_cong onB_cong onS_cong onN_cong onL_cong

theorem i8_eq (x : Int) : i8 x = (x + 128) % 256 - 128 := by
  unfold i8
  simp [IntKind.wrap, IntKind.bits, IntKind.signed, Int.bmod]
  omega
theorem shl_at {v : Int} (hv : -36028797018963968 ≤ v ∧ v < 36028797018963968) : arith .shl .i64 v 8 = 256 * v := by
  show i64 (v * 2 ^ (min ((8 : Int)).toNat IntKind.i64.bits)) = _
  have e : (2 : Int) ^ (min ((8 : Int)).toNat IntKind.i64.bits) = 256 := rfl
  rw [e, i64_in _ (by omega)]; omega
theorem or_at {v b : Int} (hv : -36028797018963968 ≤ v ∧ v < 36028797018963968) (hb : 0 ≤ b ∧ b ≤ 255) : arith .or .i64 (arith .shl .i64 v 8) b = 256 * v + b := by
  rw [shl_at hv]
  show i64 (((BitVec.ofInt 64 (256 * v) ||| BitVec.ofInt 64 b).toNat : Nat) : Int) = _
  rw [BitVec.toNat_or, BitVec.toNat_ofInt, BitVec.toNat_ofInt]
  have e1 : ((256 * v) % ((2 ^ 64 : Nat) : Int)).toNat = 2 ^ 8 * (v % 72057594037927936).toNat := by
    show ((256 * v) % 18446744073709551616).toNat = 256 * (v % 72057594037927936).toNat
    omega
  have e2 : (b % ((2 ^ 64 : Nat) : Int)).toNat = b.toNat := by
    show (b % 18446744073709551616).toNat = b.toNat
    omega
  rw [e1, e2, ← Nat.two_pow_add_eq_or_of_lt (by omega : b.toNat < 2 ^ 8)]
  rw [i64_eq]
  omega
theorem div_bound {x c : Int} (hc : 1 ≤ c) (hx : -9223372036854775808 ≤ x ∧ x < 9223372036854775808) : -9223372036854775808 ≤ x / c ∧ x / c < 9223372036854775808 := by
  constructor
  · rw [Int.le_ediv_iff_mul_le (by omega)]; omega
  · rw [Int.ediv_lt_iff_lt_mul (by omega)]; omega
theorem pow_pos2 (k : Nat) : (1 : Int) ≤ 2 ^ k := by
  have : (0 : Int) < 2 ^ k := Int.pow_pos (by omega)
  omega
theorem div_step (x : Int) (r : Nat) : x / 2 ^ (8 * (r + 1)) = x / 2 ^ (8 * r) / 256 := by
  rw [Int.ediv_ediv_of_nonneg (by have := pow_pos2 (8 * r); omega)]
  congr 1
  rw [show 8 * (r + 1) = 8 * r + 8 by omega, Int.pow_add]; rfl
theorem enc_get (x : Int) : ∀ (s r : Nat), r < s → (enc s x).getD (s - 1 - r) 0 = byteAt x r
  | 0, r, h => by omega
  | s + 1, r, h => by
    unfold enc
    by_cases hr : r = s
    · subst hr
      rw [show r + 1 - 1 - r = 0 by omega]; rfl
    · rw [show s + 1 - 1 - r = (s - 1 - r) + 1 by omega]
      exact enc_get x s r (by omega)
theorem app_get (a b : List UInt8) (k : Nat) : (a ++ b).getD (a.length + k) 0 = b.getD k 0 := by
  unfold List.getD
  rw [List.getElem?_append_right (by omega), show a.length + k - a.length = k by omega]
theorem get_run {s : Nat} {x : Int} {pre : List UInt8} (hs : s ≤ 8) (hp : pre.length ≤ 100000) (hx : -9223372036854775808 ≤ x ∧ x < 9223372036854775808) : ∀ (r : Nat), r < s →
    iter F_bigend_Get_L0 [.n (pre.length + s), .l (bc (pre ++ enc s x)), .i (pre.length : Int), .i (s : Int), .i (x / 2 ^ (8 * r)), .i ((s : Int) - r)] = some [.i x, .i 0]
  | 0, h => by
    apply iter_end
    unfold F_bigend_Get_L0
    simp (disch := omega) only [onI_c, onS_c, onB_c, onN_c, onL_c, Option.bind_some, Option.map_some, cond_true, cond_false, ↓onI_c, ↓onS_c, ↓onB_c, ↓onN_c, ↓onL_c, ↓Option.bind_some, ↓cond_true, ↓cond_false, decide_eq_true, decide_eq_false, Bool.not_true, Bool.not_false, Int.toNat_natCast, List.length_append, List.length_cons, List.length_nil, List.drop_zero, Nat.zero_add, Nat.add_zero, decT, decF, bneI_t, bneI_f]
    simp
  | r + 1, h => by
    have ih := get_run hs hp hx r (by omega)
    rw [← ih]
    apply iter_next
    have e1 : i64 ((pre.length : Int) + ((s : Int) - ((r + 1 : Nat) : Int))) = ((pre.length + (s - 1 - r) : Nat) : Int) := by rw [i64_in _ (by omega)]; omega
    have e2 : i64 ((s : Int) - ((r + 1 : Nat) : Int) + 1) = (s : Int) - r := by rw [i64_in _ (by omega)]; omega
    have e3 : asI .u8 ((bc (pre ++ enc s x))[pre.length + (s - 1 - r)]?) = some ((byteAt x r).toNat : Int) := by
      rw [bc_get (by rw [List.length_append, enc_len]; omega), app_get, enc_get x s r (by omega)]
    have hb := byteAt_nat x r
    have hd := div_step x r
    have bd := div_bound (c := 2 ^ (8 * r)) (pow_pos2 _) hx
    rw [hd]
    generalize x / 2 ^ (8 * r) = y at *
    have e4 : i64 ((byteAt x r).toNat : Int) = ((byteAt x r).toNat : Int) := by rw [i64_in _ (by omega)]
    have e5 := or_at (v := y / 256) (b := ((byteAt x r).toNat : Int)) (by omega) (by omega)
    have e6 : 256 * (y / 256) + ((byteAt x r).toNat : Int) = y := by omega
    rw [e6] at e5
    clear e6 bd hb hd
    unfold F_bigend_Get_L0
    simp (disch := omega) only [onI_c, onS_c, onB_c, onN_c, onL_c, Option.bind_some, Option.map_some, cond_true, cond_false, ↓onI_c, ↓onS_c, ↓onB_c, ↓onN_c, ↓onL_c, ↓Option.bind_some, ↓cond_true, ↓cond_false, decide_eq_true, decide_eq_false, Bool.not_true, Bool.not_false, Int.toNat_natCast, List.length_append, List.length_cons, List.length_nil, List.drop_zero, Nat.zero_add, Nat.add_zero, decT, decF, bneI_t, bneI_f, e1, e2, e3, e4, e5]
theorem inside_at {n : Nat} {l : List AV} {a s : Int} (h : 0 ≤ a) (h1 : a ≤ n) (hs : s ≤ n - a) (hn : n ≤ 1000000) : F_bigend_inside [.n n, .l l, .i a, .i s] = some [.b true] := by
  unfold F_bigend_inside
  simp (disch := omega) only [onI_c, onS_c, onB_c, onN_c, onL_c, Option.bind_some, Option.map_some, cond_true, cond_false, ↓onI_c, ↓onS_c, ↓onB_c, ↓onN_c, ↓onL_c, ↓Option.bind_some, ↓cond_true, ↓cond_false, decide_eq_true, decide_eq_false, Bool.not_true, Bool.not_false, Int.toNat_natCast, List.length_append, List.length_cons, List.length_nil, List.drop_zero, Nat.zero_add, Nat.add_zero, decT, decF, bneI_t, bneI_f, i64_in]
theorem get_at {s : Nat} {x : Int} {pre : List UInt8} (h : s = 1 ∨ s = 4 ∨ s = 8) (hp : pre.length ≤ 100000) (hx : -9223372036854775808 ≤ x ∧ x < 9223372036854775808) (h0 : x / 2 ^ (8 * s - 1) = 0 ∨ x / 2 ^ (8 * s - 1) = -1) :
    F_bigend_Get [.n (pre.length + s), .l (bc (pre ++ enc s x)), .i (pre.length : Int), .i (s : Int)] = some [.i x, .i 0] := by
  have hsz := size_at (s := (s : Int)) (by omega)
  have hin := inside_at (n := pre.length + s) (l := bc (pre ++ enc s x)) (a := (pre.length : Int)) (s := (s : Int)) (by omega) (by omega) (by omega) (by omega)
  have hrun := get_run (s := s) (x := x) (pre := pre) (by omega) hp hx (s - 1) (by omega)
  have e3 : asI .u8 ((bc (pre ++ enc s x))[pre.length]?) = some ((byteAt x (s - 1)).toNat : Int) := by
    have := bc_get (bs := pre ++ enc s x) (k := pre.length) (by rw [List.length_append, enc_len]; omega)
    have h2 := app_get pre (enc s x) 0
    have h3 := enc_get x s (s - 1) (by omega)
    rw [show s - 1 - (s - 1) = 0 by omega] at h3
    rw [Nat.add_zero] at h2
    rw [this, h2, h3]
  have hb := byteAt_nat x (s - 1)
  have hy : (x / 2 ^ (8 * (s - 1))) / 128 = x / 2 ^ (8 * s - 1) := by
    rw [Int.ediv_ediv_of_nonneg (by have := pow_pos2 (8 * (s - 1)); omega)]
    congr 1
    rw [show 8 * s - 1 = 8 * (s - 1) + 7 by omega, Int.pow_add]; rfl
  have e4 : i64 (i8 ((byteAt x (s - 1)).toNat : Int)) = x / 2 ^ (8 * (s - 1)) := by
    rw [hb, i8_eq]
    generalize x / 2 ^ (8 * (s - 1)) = y at *
    rw [i64_in _ (by omega)]; omega
  have e5 : ((s : Int) - ((s - 1 : Nat) : Int)) = 1 := by omega
  rw [e5] at hrun
  clear hb hy h0 hx
  unfold F_bigend_Get
  simp (disch := omega) only [onI_c, onS_c, onB_c, onN_c, onL_c, Option.bind_some, Option.map_some, cond_true, cond_false, ↓onI_c, ↓onS_c, ↓onB_c, ↓onN_c, ↓onL_c, ↓Option.bind_some, ↓cond_true, ↓cond_false, decide_eq_true, decide_eq_false, Bool.not_true, Bool.not_false, Int.toNat_natCast, List.length_append, List.length_cons, List.length_nil, List.drop_zero, Nat.zero_add, Nat.add_zero, decT, decF, bneI_t, bneI_f, hsz, hin, e3, e4]
  exact hrun
theorem bigworks_at : F_law41_works [] = some [.b true] := rfl
theorem equal_at {a b : List UInt8} {m n : Nat} (hm : m = a.length) (hn : n = b.length) : F_bytes_Equal [.n m, .l (bc a), .n n, .l (bc b)] = some [.b (a == b)] := by
  subst hm hn
  have h1 := bytesOf_bc a
  have h2 := bytesOf_bc b
  have l1 := bc_len a
  have l2 := bc_len b
  unfold F_bytes_Equal
  by_cases h : a = b
  · subst h
    simp (disch := omega) only [onI_c, onS_c, onB_c, onN_c, onL_c, Option.bind_some, Option.map_some, cond_true, cond_false, ↓onI_c, ↓onS_c, ↓onB_c, ↓onN_c, ↓onL_c, ↓Option.bind_some, ↓cond_true, ↓cond_false, decide_eq_true, decide_eq_false, Bool.not_true, Bool.not_false, Int.toNat_natCast, List.length_append, List.length_cons, List.length_nil, List.drop_zero, Nat.zero_add, Nat.add_zero, decT, decF, bneI_t, bneI_f, h1, l1, beq_self_eq_true]
  · have hf : (a == b) = false := beq_f h
    simp (disch := omega) only [onI_c, onS_c, onB_c, onN_c, onL_c, Option.bind_some, Option.map_some, cond_true, cond_false, ↓onI_c, ↓onS_c, ↓onB_c, ↓onN_c, ↓onL_c, ↓Option.bind_some, ↓cond_true, ↓cond_false, decide_eq_true, decide_eq_false, Bool.not_true, Bool.not_false, Int.toNat_natCast, List.length_append, List.length_cons, List.length_nil, List.drop_zero, Nat.zero_add, Nat.add_zero, decT, decF, bneI_t, bneI_f, h1, h2, l1, l2, hf]
theorem cells_bc {τ : Tys} {e n : Nat} {c : List AV} (ht : tks τ 12 e = some [.int .u8]) (h : CellOk τ (.slice e) (.seq (.sym n) c)) : ∃ bs, c = bc bs ∧ n = bs.length := by
  cases h with
  | slice he hp hl hn hh =>
    rw [ht] at he
    cases he
    have key : ∀ (c : List AV), (∀ (i : Nat) (x : AV), c[i]? = some x → CellOk τ (.int .u8) x) → ∃ bs, c = bc bs := by
      intro c
      induction c with
      | nil => intro _; exact ⟨[], rfl⟩
      | cons x c ih =>
        intro hc
        obtain ⟨bs, rfl⟩ := ih fun i y q => hc (i + 1) y (by simpa using q)
        have hx := hc 0 x rfl
        cases hx with
        | int hw =>
          rename_i m
          have := wf_u8 hw
          refine ⟨UInt8.ofNat m.toNat :: bs, ?_⟩
          unfold bc
          rw [List.map_cons]
          congr 1
          unfold bc1
          rw [UInt8.toNat_ofNat']
          congr 2
          omega
    obtain ⟨bs, rfl⟩ := key c fun i x q => hh i x _ q (by
      show ([TK.int .u8] : List TK)[i % 1]? = _
      rw [Nat.mod_one]; rfl)
    refine ⟨bs, rfl, ?_⟩
    rw [bc_len] at hl
    simpa using hl.symm
end Go.Proofs.Ytljbgkfoljjgbaa
