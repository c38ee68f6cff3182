/-
  Big-endian numbers: they are the document's.
-/
import Derived.Test.YtljbgkfoljjgbaaMRefBigbig
namespace Go.Proofs.Ytljbgkfoljjgbaa
open Go.Ax Go.Lib
set_option linter.all false
set_option maxHeartbeats 8000000
attribute [local congr] cond_cong bind_cong onI_cong onB_cong onS_cong onN_cong onL_cong

/-- Further bytes of a number. -/
def fv : Int → List UInt8 → Int
  | v, [] => v
  | v, c :: l => fv (256 * v + (c.toNat : Int)) l
def sgn (c : UInt8) : Int := if 128 ≤ c.toNat then (c.toNat : Int) - 256 else (c.toNat : Int)
def gval (l : List UInt8) : Int := fv (sgn (l.getD 0 0)) (l.drop 1)
def bnd : Nat → Int
  | 0 => 128
  | k + 1 => 256 * bnd k
theorem bnd_le {k : Nat} (h : k ≤ 6) : 128 ≤ bnd k ∧ bnd k ≤ 36028797018963968 := by
  have : k = 0 ∨ k = 1 ∨ k = 2 ∨ k = 3 ∨ k = 4 ∨ k = 5 ∨ k = 6 := by omega
  rcases this with rfl | rfl | rfl | rfl | rfl | rfl | rfl <;> decide
theorem drop_at {l : List UInt8} {i : Nat} (h : i < l.length) : l.drop i = l.getD i 0 :: l.drop (i + 1) := by
  rw [List.drop_eq_getElem_cons h]
  simp [List.getD, h]
theorem u8_lt (c : UInt8) : (0 : Int) ≤ (c.toNat : Int) ∧ (c.toNat : Int) ≤ 255 := by
  have := UInt8.toNat_lt c
  omega
theorem sgn_bound (c : UInt8) : -128 ≤ sgn c ∧ sgn c < 128 := by
  have := u8_lt c
  unfold sgn; split <;> omega
theorem getp_run {s a n : Nat} {l bs : List UInt8} (hs : s ≤ 8) (hn : n = bs.length) (hb : bs.length ≤ 100000) (hl : l.length = s) (ha : a + s ≤ n) (hg : ∀ i, i < s → bs.getD (a + i) 0 = l.getD i 0) : ∀ (r k : Nat) (v : Int), k + 1 + r = s → -bnd k ≤ v → v < bnd k →
    iter F_bigend_Get_L0 [.n n, .l (bc bs), .i (a : Int), .i (s : Int), .i v, .i ((k + 1 : Nat) : Int)] = some [.i (fv v (l.drop (k + 1))), .i 0]
  | 0, k, v, h, _, _ => by
    have e : l.drop (k + 1) = [] := List.drop_eq_nil_of_le (by omega)
    rw [e]
    apply iter_end
    unfold F_bigend_Get_L0
    simp (disch := omega) only [onI_c, onS_c, onB_c, onN_c, onL_c, Option.bind_some, Option.map_some, cond_true, cond_false, ↓onI_c, ↓onS_c, ↓onB_c, ↓onN_c, ↓onL_c, ↓Option.bind_some, ↓cond_true, ↓cond_false, decide_eq_true, decide_eq_false, Bool.not_true, Bool.not_false, Int.toNat_natCast, List.length_append, List.length_cons, List.length_nil, List.drop_zero, Nat.zero_add, Nat.add_zero, decT, decF, bneI_t, bneI_f]
    rfl
  | r + 1, k, v, h, h1, h2 => by
    have hk := bnd_le (k := k) (by omega)
    have hc := u8_lt (l.getD (k + 1) 0)
    have ih := getp_run hs hn hb hl ha hg r (k + 1) (256 * v + ((l.getD (k + 1) 0).toNat : Int)) (by omega) (by unfold bnd; omega) (by unfold bnd; omega)
    rw [drop_at (by omega)]
    show _ = (some [Dat.i (fv (256 * v + ((l.getD (k + 1) 0).toNat : Int)) (l.drop (k + 1 + 1))), Dat.i 0] : Option (List Dat))
    rw [← ih]
    apply iter_next
    have e1 : i64 ((a : Int) + ((k + 1 : Nat) : Int)) = ((a + (k + 1) : Nat) : Int) := by rw [i64_in _ (by omega)]; omega
    have e2 : i64 (((k + 1 : Nat) : Int) + 1) = ((k + 1 + 1 : Nat) : Int) := by rw [i64_in _ (by omega)]; omega
    have e3 : asI .u8 ((bc bs)[a + (k + 1)]?) = some ((l.getD (k + 1) 0).toNat : Int) := by rw [bc_get (by omega), hg _ (by omega)]
    have e4 : i64 ((l.getD (k + 1) 0).toNat : Int) = ((l.getD (k + 1) 0).toNat : Int) := by rw [i64_in _ (by omega)]
    have e5 := or_at (v := v) (b := ((l.getD (k + 1) 0).toNat : Int)) (by omega) hc
    clear hk h1 h2 hc hg ih
    unfold F_bigend_Get_L0
    simp (disch := omega) only [onI_c, onS_c, onB_c, onN_c, onL_c, Option.bind_some, Option.map_some, cond_true, cond_false, ↓onI_c, ↓onS_c, ↓onB_c, ↓onN_c, ↓onL_c, ↓Option.bind_some, ↓cond_true, ↓cond_false, decide_eq_true, decide_eq_false, Bool.not_true, Bool.not_false, Int.toNat_natCast, List.length_append, List.length_cons, List.length_nil, List.drop_zero, Nat.zero_add, Nat.add_zero, decT, decF, bneI_t, bneI_f, e1, e2, e3, e4, e5]
theorem getr_run0 {s : Nat} {l : List UInt8} (hs : s ≤ 8) (hl : l.length = s) : ∀ (r k : Nat) (v : Int), k + 1 + r = s → -bnd k ≤ v → v < bnd k →
    iter F_ref41_Get_L0 [.i (s : Int), .n s, .l (bc l), .i v, .i ((k + 1 : Nat) : Int)] = some [.i (fv v (l.drop (k + 1))), .i 0]
  | 0, k, v, h, _, _ => by
    have e : l.drop (k + 1) = [] := List.drop_eq_nil_of_le (by omega)
    rw [e]
    apply iter_end
    unfold F_ref41_Get_L0
    simp (disch := omega) only [onI_c, onS_c, onB_c, onN_c, onL_c, Option.bind_some, Option.map_some, cond_true, cond_false, ↓onI_c, ↓onS_c, ↓onB_c, ↓onN_c, ↓onL_c, ↓Option.bind_some, ↓cond_true, ↓cond_false, decide_eq_true, decide_eq_false, Bool.not_true, Bool.not_false, Int.toNat_natCast, List.length_append, List.length_cons, List.length_nil, List.drop_zero, Nat.zero_add, Nat.add_zero, decT, decF, bneI_t, bneI_f]
    rfl
  | r + 1, k, v, h, h1, h2 => by
    have hk := bnd_le (k := k) (by omega)
    have hc := u8_lt (l.getD (k + 1) 0)
    have ih := getr_run0 hs hl r (k + 1) (256 * v + ((l.getD (k + 1) 0).toNat : Int)) (by omega) (by unfold bnd; omega) (by unfold bnd; omega)
    rw [drop_at (by omega)]
    show _ = (some [Dat.i (fv (256 * v + ((l.getD (k + 1) 0).toNat : Int)) (l.drop (k + 1 + 1))), Dat.i 0] : Option (List Dat))
    rw [← ih]
    apply iter_next
    have e2 : i64 (((k + 1 : Nat) : Int) + 1) = ((k + 1 + 1 : Nat) : Int) := by rw [i64_in _ (by omega)]; omega
    have e3 : asI .u8 ((bc l)[k + 1]?) = some ((l.getD (k + 1) 0).toNat : Int) := bc_get (by omega)
    have e5 : i64 (i64 (v * 256) + i64 ((l.getD (k + 1) 0).toNat : Int)) = 256 * v + ((l.getD (k + 1) 0).toNat : Int) := by
      rw [i64_in (v * 256) (by omega), i64_in ((l.getD (k + 1) 0).toNat : Int) (by omega), i64_in _ (by omega)]; omega
    clear hk h1 h2 hc ih
    unfold F_ref41_Get_L0
    simp (disch := omega) only [onI_c, onS_c, onB_c, onN_c, onL_c, Option.bind_some, Option.map_some, cond_true, cond_false, ↓onI_c, ↓onS_c, ↓onB_c, ↓onN_c, ↓onL_c, ↓Option.bind_some, ↓cond_true, ↓cond_false, decide_eq_true, decide_eq_false, Bool.not_true, Bool.not_false, Int.toNat_natCast, List.length_append, List.length_cons, List.length_nil, List.drop_zero, Nat.zero_add, Nat.add_zero, decT, decF, bneI_t, bneI_f, e2, e3, e5]
theorem getr_run1 {s : Nat} {l : List UInt8} (hs : s ≤ 8) (hl : l.length = s) : ∀ (r k : Nat) (v : Int), k + 1 + r = s → -bnd k ≤ v → v < bnd k →
    iter F_ref41_Get_L1 [.i (s : Int), .n s, .l (bc l), .i v, .i ((k + 1 : Nat) : Int)] = some [.i (fv v (l.drop (k + 1))), .i 0]
  | 0, k, v, h, _, _ => by
    have e : l.drop (k + 1) = [] := List.drop_eq_nil_of_le (by omega)
    rw [e]
    apply iter_end
    unfold F_ref41_Get_L1
    simp (disch := omega) only [onI_c, onS_c, onB_c, onN_c, onL_c, Option.bind_some, Option.map_some, cond_true, cond_false, ↓onI_c, ↓onS_c, ↓onB_c, ↓onN_c, ↓onL_c, ↓Option.bind_some, ↓cond_true, ↓cond_false, decide_eq_true, decide_eq_false, Bool.not_true, Bool.not_false, Int.toNat_natCast, List.length_append, List.length_cons, List.length_nil, List.drop_zero, Nat.zero_add, Nat.add_zero, decT, decF, bneI_t, bneI_f]
    rfl
  | r + 1, k, v, h, h1, h2 => by
    have hk := bnd_le (k := k) (by omega)
    have hc := u8_lt (l.getD (k + 1) 0)
    have ih := getr_run1 hs hl r (k + 1) (256 * v + ((l.getD (k + 1) 0).toNat : Int)) (by omega) (by unfold bnd; omega) (by unfold bnd; omega)
    rw [drop_at (by omega)]
    show _ = (some [Dat.i (fv (256 * v + ((l.getD (k + 1) 0).toNat : Int)) (l.drop (k + 1 + 1))), Dat.i 0] : Option (List Dat))
    rw [← ih]
    apply iter_next
    have e2 : i64 (((k + 1 : Nat) : Int) + 1) = ((k + 1 + 1 : Nat) : Int) := by rw [i64_in _ (by omega)]; omega
    have e3 : asI .u8 ((bc l)[k + 1]?) = some ((l.getD (k + 1) 0).toNat : Int) := bc_get (by omega)
    have e5 : i64 (i64 (v * 256) + i64 ((l.getD (k + 1) 0).toNat : Int)) = 256 * v + ((l.getD (k + 1) 0).toNat : Int) := by
      rw [i64_in (v * 256) (by omega), i64_in ((l.getD (k + 1) 0).toNat : Int) (by omega), i64_in _ (by omega)]; omega
    clear hk h1 h2 hc ih
    unfold F_ref41_Get_L1
    simp (disch := omega) only [onI_c, onS_c, onB_c, onN_c, onL_c, Option.bind_some, Option.map_some, cond_true, cond_false, ↓onI_c, ↓onS_c, ↓onB_c, ↓onN_c, ↓onL_c, ↓Option.bind_some, ↓cond_true, ↓cond_false, decide_eq_true, decide_eq_false, Bool.not_true, Bool.not_false, Int.toNat_natCast, List.length_append, List.length_cons, List.length_nil, List.drop_zero, Nat.zero_add, Nat.add_zero, decT, decF, bneI_t, bneI_f, e2, e3, e5]
theorem inside_no {n : Nat} {l : List AV} {a s : Int} (h : ¬ (0 ≤ a ∧ a ≤ n ∧ s ≤ n - a)) (hn : n ≤ 1000000) : F_bigend_inside [.n n, .l l, .i a, .i s] = some [.b false] := by
  unfold F_bigend_inside
  by_cases h1 : 0 ≤ a
  · by_cases h2 : a ≤ n
    · simp (disch := omega) only [onI_c, onS_c, onB_c, onN_c, onL_c, Option.bind_some, Option.map_some, cond_true, cond_false, ↓onI_c, ↓onS_c, ↓onB_c, ↓onN_c, ↓onL_c, ↓Option.bind_some, ↓cond_true, ↓cond_false, decide_eq_true, decide_eq_false, Bool.not_true, Bool.not_false, Int.toNat_natCast, List.length_append, List.length_cons, List.length_nil, List.drop_zero, Nat.zero_add, Nat.add_zero, decT, decF, bneI_t, bneI_f, i64_in]
    · simp (disch := omega) only [onI_c, onS_c, onB_c, onN_c, onL_c, Option.bind_some, Option.map_some, cond_true, cond_false, ↓onI_c, ↓onS_c, ↓onB_c, ↓onN_c, ↓onL_c, ↓Option.bind_some, ↓cond_true, ↓cond_false, decide_eq_true, decide_eq_false, Bool.not_true, Bool.not_false, Int.toNat_natCast, List.length_append, List.length_cons, List.length_nil, List.drop_zero, Nat.zero_add, Nat.add_zero, decT, decF, bneI_t, bneI_f]
  · simp (disch := omega) only [onI_c, onS_c, onB_c, onN_c, onL_c, Option.bind_some, Option.map_some, cond_true, cond_false, ↓onI_c, ↓onS_c, ↓onB_c, ↓onN_c, ↓onL_c, ↓Option.bind_some, ↓cond_true, ↓cond_false, decide_eq_true, decide_eq_false, Bool.not_true, Bool.not_false, Int.toNat_natCast, List.length_append, List.length_cons, List.length_nil, List.drop_zero, Nat.zero_add, Nat.add_zero, decT, decF, bneI_t, bneI_f]
theorem bytes_in {a m : Nat} {bs : List UInt8} (h : a + m ≤ bs.length) (hb : bs.length ≤ 100000) : F_bigend_Bytes [.n bs.length, .l (bc bs), .i (a : Int), .i (m : Int)] = some [.n m, .l (bc ((bs.drop a).take m)), .i 0] := by
  have hin := inside_at (n := bs.length) (l := bc bs) (a := (a : Int)) (s := (m : Int)) (by omega) (by omega) (by omega) (by omega)
  have e1 : i64 ((a : Int) + (m : Int)) = ((a + m : Nat) : Int) := by rw [i64_in _ (by omega)]; omega
  have hl := bc_len bs
  have e2 : List.take m (List.drop a (bc bs)) = bc ((bs.drop a).take m) := by unfold bc; rw [List.map_take, List.map_drop]
  have e3 := clone2 (bs := (bs.drop a).take m) (n := m) (by simp; omega) (by simp; omega)
  have e4 : a + m - a = m := by omega
  unfold F_bigend_Bytes
  simp (disch := omega) only [onI_c, onS_c, onB_c, onN_c, onL_c, Option.bind_some, Option.map_some, cond_true, cond_false, ↓onI_c, ↓onS_c, ↓onB_c, ↓onN_c, ↓onL_c, ↓Option.bind_some, ↓cond_true, ↓cond_false, decide_eq_true, decide_eq_false, Bool.not_true, Bool.not_false, Int.toNat_natCast, List.length_append, List.length_cons, List.length_nil, List.drop_zero, Nat.zero_add, Nat.add_zero, decT, decF, bneI_t, bneI_f, hin, e1, e4, e2, e3, hl]
theorem bytes_out {n : Nat} {l : List AV} {a m : Int} (hm : 0 ≤ m) (h : ¬ (0 ≤ a ∧ a ≤ n ∧ m ≤ n - a)) (hn : n ≤ 1000000) : F_bigend_Bytes [.n n, .l l, .i a, .i m] = some [.n 0, .l [], .i 19] := by
  have hin := inside_no (l := l) h hn
  unfold F_bigend_Bytes
  simp (disch := omega) only [onI_c, onS_c, onB_c, onN_c, onL_c, Option.bind_some, Option.map_some, cond_true, cond_false, ↓onI_c, ↓onS_c, ↓onB_c, ↓onN_c, ↓onL_c, ↓Option.bind_some, ↓cond_true, ↓cond_false, decide_eq_true, decide_eq_false, Bool.not_true, Bool.not_false, Int.toNat_natCast, List.length_append, List.length_cons, List.length_nil, List.drop_zero, Nat.zero_add, Nat.add_zero, decT, decF, bneI_t, bneI_f, hin]
theorem bytes_neg {n : Nat} {l : List AV} {a m : Int} (hm : m < 0) : F_bigend_Bytes [.n n, .l l, .i a, .i m] = some [.n 0, .l [], .i 2] := by
  unfold F_bigend_Bytes
  simp (disch := omega) only [onI_c, onS_c, onB_c, onN_c, onL_c, Option.bind_some, Option.map_some, cond_true, cond_false, ↓onI_c, ↓onS_c, ↓onB_c, ↓onN_c, ↓onL_c, ↓Option.bind_some, ↓cond_true, ↓cond_false, decide_eq_true, decide_eq_false, Bool.not_true, Bool.not_false, Int.toNat_natCast, List.length_append, List.length_cons, List.length_nil, List.drop_zero, Nat.zero_add, Nat.add_zero, decT, decF, bneI_t, bneI_f]
theorem rbytes_neg {n : Nat} {l : List AV} {a m : Int} (hm : m < 0) : F_ref41_Bytes [.n n, .l l, .i a, .i m] = some [.n 0, .l [], .i 2] := by
  unfold F_ref41_Bytes
  simp (disch := omega) only [onI_c, onS_c, onB_c, onN_c, onL_c, Option.bind_some, Option.map_some, cond_true, cond_false, ↓onI_c, ↓onS_c, ↓onB_c, ↓onN_c, ↓onL_c, ↓Option.bind_some, ↓cond_true, ↓cond_false, decide_eq_true, decide_eq_false, Bool.not_true, Bool.not_false, Int.toNat_natCast, List.length_append, List.length_cons, List.length_nil, List.drop_zero, Nat.zero_add, Nat.add_zero, decT, decF, bneI_t, bneI_f]
theorem rbytes_out {n : Nat} {l : List AV} {a m : Int} (hm : 0 ≤ m) (h : ¬ (0 ≤ a ∧ a ≤ n ∧ m ≤ n - a)) (hn : n ≤ 1000000) : F_ref41_Bytes [.n n, .l l, .i a, .i m] = some [.n 0, .l [], .i 19] := by
  unfold F_ref41_Bytes
  by_cases h1 : a < 0
  · simp (disch := omega) only [onI_c, onS_c, onB_c, onN_c, onL_c, Option.bind_some, Option.map_some, cond_true, cond_false, ↓onI_c, ↓onS_c, ↓onB_c, ↓onN_c, ↓onL_c, ↓Option.bind_some, ↓cond_true, ↓cond_false, decide_eq_true, decide_eq_false, Bool.not_true, Bool.not_false, Int.toNat_natCast, List.length_append, List.length_cons, List.length_nil, List.drop_zero, Nat.zero_add, Nat.add_zero, decT, decF, bneI_t, bneI_f]
  · by_cases h2 : (n : Int) < a
    · simp (disch := omega) only [onI_c, onS_c, onB_c, onN_c, onL_c, Option.bind_some, Option.map_some, cond_true, cond_false, ↓onI_c, ↓onS_c, ↓onB_c, ↓onN_c, ↓onL_c, ↓Option.bind_some, ↓cond_true, ↓cond_false, decide_eq_true, decide_eq_false, Bool.not_true, Bool.not_false, Int.toNat_natCast, List.length_append, List.length_cons, List.length_nil, List.drop_zero, Nat.zero_add, Nat.add_zero, decT, decF, bneI_t, bneI_f]
    · simp (disch := omega) only [onI_c, onS_c, onB_c, onN_c, onL_c, Option.bind_some, Option.map_some, cond_true, cond_false, ↓onI_c, ↓onS_c, ↓onB_c, ↓onN_c, ↓onL_c, ↓Option.bind_some, ↓cond_true, ↓cond_false, decide_eq_true, decide_eq_false, Bool.not_true, Bool.not_false, Int.toNat_natCast, List.length_append, List.length_cons, List.length_nil, List.drop_zero, Nat.zero_add, Nat.add_zero, decT, decF, bneI_t, bneI_f, i64_in]
theorem rbytes_in {a m : Nat} {bs : List UInt8} (h : a + m ≤ bs.length) (hb : bs.length ≤ 100000) : F_ref41_Bytes [.n bs.length, .l (bc bs), .i (a : Int), .i (m : Int)] = some [.n m, .l (bc ((bs.drop a).take m)), .i 0] := by
  have e0 : i64 (((bs.length : Nat) : Int) - (a : Int)) = ((bs.length - a : Nat) : Int) := by rw [i64_in _ (by omega)]; omega
  have e1 : i64 ((a : Int) + (m : Int)) = ((a + m : Nat) : Int) := by rw [i64_in _ (by omega)]; omega
  have hl := bc_len bs
  have e2 : List.take m (List.drop a (bc bs)) = bc ((bs.drop a).take m) := by unfold bc; rw [List.map_take, List.map_drop]
  have e4 : a + m - a = m := by omega
  have e5 : (bc ((bs.drop a).take m)).length = m := by rw [bc_len]; simp; omega
  have e6 : List.take (m * 1) (bc ((bs.drop a).take m)) = bc ((bs.drop a).take m) := List.take_of_length_le (by omega)
  have e7 := bc_closed ((bs.drop a).take m)
  unfold F_ref41_Bytes
  by_cases hz : m = 0
  · have e8 : bc ((bs.drop a).take m) = [] := List.length_eq_zero_iff.1 (by omega)
    rw [e8] at e2 e5 e6 e7 ⊢
    have w0 : Ax.write ([] : List AV) 0 [] = [] := rfl
    simp (disch := omega) only [onI_c, onS_c, onB_c, onN_c, onL_c, Option.bind_some, Option.map_some, cond_true, cond_false, ↓onI_c, ↓onS_c, ↓onB_c, ↓onN_c, ↓onL_c, ↓Option.bind_some, ↓cond_true, ↓cond_false, decide_eq_true, decide_eq_false, Bool.not_true, Bool.not_false, Int.toNat_natCast, List.length_append, List.length_cons, List.length_nil, List.drop_zero, Nat.zero_add, Nat.add_zero, decT, decF, bneI_t, bneI_f, e0, e1, e4, e2, e5, e6, e7, hl, w0, List.nil_append]
  · simp (disch := omega) only [onI_c, onS_c, onB_c, onN_c, onL_c, Option.bind_some, Option.map_some, cond_true, cond_false, ↓onI_c, ↓onS_c, ↓onB_c, ↓onN_c, ↓onL_c, ↓Option.bind_some, ↓cond_true, ↓cond_false, decide_eq_true, decide_eq_false, Bool.not_true, Bool.not_false, Int.toNat_natCast, List.length_append, List.length_cons, List.length_nil, List.drop_zero, Nat.zero_add, Nat.add_zero, decT, decF, bneI_t, bneI_f, e0, e1, e4, e2, e5, e6, e7, hl, List.nil_append]
theorem getp_at {s a : Nat} {bs : List UInt8} (h : s = 1 ∨ s = 4 ∨ s = 8) (hb : bs.length ≤ 100000) (ha : a + s ≤ bs.length) : F_bigend_Get [.n bs.length, .l (bc bs), .i (a : Int), .i (s : Int)] = some [.i (gval ((bs.drop a).take s)), .i 0] := by
  have hsz := size_at (s := (s : Int)) (by omega)
  have hin := inside_at (n := bs.length) (l := bc bs) (a := (a : Int)) (s := (s : Int)) (by omega) (by omega) (by omega) (by omega)
  have hl : ((bs.drop a).take s).length = s := by simp; omega
  have hg : ∀ i, i < s → bs.getD (a + i) 0 = ((bs.drop a).take s).getD i 0 := by
    intro i hi
    simp [List.getD, List.getElem?_take, List.getElem?_drop, hi]
  have hsb := sgn_bound (((bs.drop a).take s).getD 0 0)
  have hrun := getp_run (s := s) (a := a) (n := bs.length) (by omega) rfl hb hl ha hg (s - 1) 0 (sgn (((bs.drop a).take s).getD 0 0)) (by omega) (by show -128 ≤ _; omega) (by show _ < 128; omega)
  have e3 : asI .u8 ((bc bs)[a]?) = some ((((bs.drop a).take s).getD 0 0).toNat : Int) := by
    have := hg 0 (by omega)
    rw [Nat.add_zero] at this
    rw [bc_get (by omega), this]
  have hc := u8_lt (((bs.drop a).take s).getD 0 0)
  have e4 : i64 (i8 ((((bs.drop a).take s).getD 0 0).toNat : Int)) = sgn (((bs.drop a).take s).getD 0 0) := by
    rw [i8_eq, i64_in _ (by omega)]
    unfold sgn
    split <;> omega
  unfold gval
  generalize (bs.drop a).take s = l at *
  clear hg hc hsb
  unfold F_bigend_Get
  simp (disch := omega) only [onI_c, onS_c, onB_c, onN_c, onL_c, Option.bind_some, Option.map_some, cond_true, cond_false, ↓onI_c, ↓onS_c, ↓onB_c, ↓onN_c, ↓onL_c, ↓Option.bind_some, ↓cond_true, ↓cond_false, decide_eq_true, decide_eq_false, Bool.not_true, Bool.not_false, Int.toNat_natCast, List.length_append, List.length_cons, List.length_nil, List.drop_zero, Nat.zero_add, Nat.add_zero, decT, decF, bneI_t, bneI_f, hsz, hin, e3, e4]
  exact hrun
theorem getr_at {s a : Nat} {bs : List UInt8} (h : s = 1 ∨ s = 4 ∨ s = 8) (hb : bs.length ≤ 100000) (ha : a + s ≤ bs.length) : F_ref41_Get [.n bs.length, .l (bc bs), .i (a : Int), .i (s : Int)] = some [.i (gval ((bs.drop a).take s)), .i 0] := by
  have hsz := rsize_at (s := (s : Int)) (by omega)
  have hby := rbytes_in (a := a) (m := s) ha hb
  have hl : ((bs.drop a).take s).length = s := by simp; omega
  have hsb := sgn_bound (((bs.drop a).take s).getD 0 0)
  have r0 := getr_run0 (s := s) (l := (bs.drop a).take s) (by omega) hl (s - 1) 0 (sgn (((bs.drop a).take s).getD 0 0)) (by omega) (by show -128 ≤ _; omega) (by show _ < 128; omega)
  have r1 := getr_run1 (s := s) (l := (bs.drop a).take s) (by omega) hl (s - 1) 0 (sgn (((bs.drop a).take s).getD 0 0)) (by omega) (by show -128 ≤ _; omega) (by show _ < 128; omega)
  have e3 : asI .u8 ((bc ((bs.drop a).take s))[0]?) = some ((((bs.drop a).take s).getD 0 0).toNat : Int) := bc_get (by omega)
  have hc := u8_lt (((bs.drop a).take s).getD 0 0)
  unfold gval
  generalize (bs.drop a).take s = l at *
  unfold F_ref41_Get
  by_cases h128 : 128 ≤ (l.getD 0 0).toNat
  · have e4 : i64 (i64 ((l.getD 0 0).toNat : Int) - 256) = sgn (l.getD 0 0) := by
      rw [i64_in ((l.getD 0 0).toNat : Int) (by omega), i64_in _ (by omega)]
      unfold sgn; rw [if_pos h128]
    simp (disch := omega) only [onI_c, onS_c, onB_c, onN_c, onL_c, Option.bind_some, Option.map_some, cond_true, cond_false, ↓onI_c, ↓onS_c, ↓onB_c, ↓onN_c, ↓onL_c, ↓Option.bind_some, ↓cond_true, ↓cond_false, decide_eq_true, decide_eq_false, Bool.not_true, Bool.not_false, Int.toNat_natCast, List.length_append, List.length_cons, List.length_nil, List.drop_zero, Nat.zero_add, Nat.add_zero, decT, decF, bneI_t, bneI_f, hsz, hby, e3, e4]
    exact r0
  · have e4 : i64 ((l.getD 0 0).toNat : Int) = sgn (l.getD 0 0) := by
      rw [i64_in ((l.getD 0 0).toNat : Int) (by omega)]
      unfold sgn; rw [if_neg h128]
    simp (disch := omega) only [onI_c, onS_c, onB_c, onN_c, onL_c, Option.bind_some, Option.map_some, cond_true, cond_false, ↓onI_c, ↓onS_c, ↓onB_c, ↓onN_c, ↓onL_c, ↓Option.bind_some, ↓cond_true, ↓cond_false, decide_eq_true, decide_eq_false, Bool.not_true, Bool.not_false, Int.toNat_natCast, List.length_append, List.length_cons, List.length_nil, List.drop_zero, Nat.zero_add, Nat.add_zero, decT, decF, bneI_t, bneI_f, hsz, hby, e3, e4]
    exact r1
end Go.Proofs.Ytljbgkfoljjgbaa
