/-
  Big-endian numbers: the parts of them; they are the document's.
-/
import Derived.Test.YtljbgkfoljjgbaaMGetbip
namespace Go.Proofs.Ytljbgkfoljjgbaa
open Go.Ax Go.Lib
set_option linter.all false
set_option maxHeartbeats 8000000
attribute [local congr] cond_cong bind_cong onI_cong onB_cong onS_cong onN_cong onL_cong

theorem seq3_at {F : List Dat → Option (List Dat)} {ds : List Dat} {n : Nat} {l : List AV} (h : F ds = some [.n n, .l l]) : seq3 (.seq) F ds = some [.n n, .l l] := by
  unfold seq3; rw [h]; rfl
theorem clone2 {bs : List UInt8} {n : Nat} (hn : n = bs.length) (hb : bs.length ≤ 100000) : F_slices_Clonebyte_byte_ [.n n, .l (bc bs)] = some [.n n, .l (bc bs)] := by
  subst hn
  refine seq3_at ?_
  cases bs with
  | nil => rfl
  | cons c bs =>
    have hl := bc_len (c :: bs)
    have hp : 0 < (c :: bs).length := by simp
    have hc := bc_closed (c :: bs)
    generalize hB : c :: bs = B at *
    have e : List.take (B.length * 1) (bc B) = bc B := List.take_of_length_le (by omega)
    unfold F_slices_Clonebyte_byte__list
    simp (disch := omega) only [onI_c, onS_c, onB_c, onN_c, onL_c, Option.bind_some, Option.map_some, cond_true, cond_false, ↓onI_c, ↓onS_c, ↓onB_c, ↓onN_c, ↓onL_c, ↓Option.bind_some, ↓cond_true, ↓cond_false, decide_eq_true, decide_eq_false, Bool.not_true, Bool.not_false, Int.toNat_natCast, List.length_append, List.length_cons, List.length_nil, List.drop_zero, Nat.zero_add, Nat.add_zero, decT, decF, bneI_t, bneI_f, List.nil_append, hl, e, hc]
/-- Further bytes of a number. -/
def fv : Int → List UInt8 → Int
  | v, [] => v
  | v, c :: l => fv (256 * v + (c.toNat : Int)) l
def sgn (c : UInt8) : Int := if 128 ≤ c.toNat then (c.toNat : Int) - 256 else (c.toNat : Int)
def gval (l : List UInt8) : Int := fv (sgn (l.getD 0 0)) (l.drop 1)
def bnd : Nat → Int
  | 0 => 128
  | k + 1 => 256 * bnd k
theorem bnd_le {k : Nat} (h : k ≤ 6) : 128 ≤ bnd k ∧ bnd k ≤ 36028797018963968 := by
  have : k = 0 ∨ k = 1 ∨ k = 2 ∨ k = 3 ∨ k = 4 ∨ k = 5 ∨ k = 6 := by omega
  rcases this with rfl | rfl | rfl | rfl | rfl | rfl | rfl <;> decide
theorem drop_at {l : List UInt8} {i : Nat} (h : i < l.length) : l.drop i = l.getD i 0 :: l.drop (i + 1) := by
  rw [List.drop_eq_getElem_cons h]
  simp [List.getD, h]
theorem u8_lt (c : UInt8) : (0 : Int) ≤ (c.toNat : Int) ∧ (c.toNat : Int) ≤ 255 := by
  have := UInt8.toNat_lt c
  omega
theorem sgn_bound (c : UInt8) : -128 ≤ sgn c ∧ sgn c < 128 := by
  have := u8_lt c
  unfold sgn; split <;> omega
theorem getp_run {s a n : Nat} {l bs : List UInt8} (hs : s ≤ 8) (hn : n = bs.length) (hb : bs.length ≤ 100000) (hl : l.length = s) (ha : a + s ≤ n) (hg : ∀ i, i < s → bs.getD (a + i) 0 = l.getD i 0) : ∀ (r k : Nat) (v : Int), k + 1 + r = s → -bnd k ≤ v → v < bnd k →
    iter F_bigend_Get_L0 [.n n, .l (bc bs), .i (a : Int), .i (s : Int), .i v, .i ((k + 1 : Nat) : Int)] = some [.i (fv v (l.drop (k + 1))), .i 0]
  | 0, k, v, h, _, _ => by
    have e : l.drop (k + 1) = [] := List.drop_eq_nil_of_le (by omega)
    rw [e]
    apply iter_end
    unfold F_bigend_Get_L0
    simp (disch := omega) only [onI_c, onS_c, onB_c, onN_c, onL_c, Option.bind_some, Option.map_some, cond_true, cond_false, ↓onI_c, ↓onS_c, ↓onB_c, ↓onN_c, ↓onL_c, ↓Option.bind_some, ↓cond_true, ↓cond_false, decide_eq_true, decide_eq_false, Bool.not_true, Bool.not_false, Int.toNat_natCast, List.length_append, List.length_cons, List.length_nil, List.drop_zero, Nat.zero_add, Nat.add_zero, decT, decF, bneI_t, bneI_f]
    rfl
  | r + 1, k, v, h, h1, h2 => by
    have hk := bnd_le (k := k) (by omega)
    have hc := u8_lt (l.getD (k + 1) 0)
    have ih := getp_run hs hn hb hl ha hg r (k + 1) (256 * v + ((l.getD (k + 1) 0).toNat : Int)) (by omega) (by unfold bnd; omega) (by unfold bnd; omega)
    rw [drop_at (by omega)]
    show _ = (some [Dat.i (fv (256 * v + ((l.getD (k + 1) 0).toNat : Int)) (l.drop (k + 1 + 1))), Dat.i 0] : Option (List Dat))
    rw [← ih]
    apply iter_next
    have e1 : i64 ((a : Int) + ((k + 1 : Nat) : Int)) = ((a + (k + 1) : Nat) : Int) := by rw [i64_in _ (by omega)]; omega
    have e2 : i64 (((k + 1 : Nat) : Int) + 1) = ((k + 1 + 1 : Nat) : Int) := by rw [i64_in _ (by omega)]; omega
    have e3 : asI .u8 ((bc bs)[a + (k + 1)]?) = some ((l.getD (k + 1) 0).toNat : Int) := by rw [bc_get (by omega), hg _ (by omega)]
    have e4 : i64 ((l.getD (k + 1) 0).toNat : Int) = ((l.getD (k + 1) 0).toNat : Int) := by rw [i64_in _ (by omega)]
    have e5 := or_at (v := v) (b := ((l.getD (k + 1) 0).toNat : Int)) (by omega) hc
    clear hk h1 h2 hc hg ih
    unfold F_bigend_Get_L0
    simp (disch := omega) only [onI_c, onS_c, onB_c, onN_c, onL_c, Option.bind_some, Option.map_some, cond_true, cond_false, ↓onI_c, ↓onS_c, ↓onB_c, ↓onN_c, ↓onL_c, ↓Option.bind_some, ↓cond_true, ↓cond_false, decide_eq_true, decide_eq_false, Bool.not_true, Bool.not_false, Int.toNat_natCast, List.length_append, List.length_cons, List.length_nil, List.drop_zero, Nat.zero_add, Nat.add_zero, decT, decF, bneI_t, bneI_f, e1, e2, e3, e4, e5]
theorem bytes_in {a m : Nat} {bs : List UInt8} (h : a + m ≤ bs.length) (hb : bs.length ≤ 100000) : F_bigend_Bytes [.n bs.length, .l (bc bs), .i (a : Int), .i (m : Int)] = some [.n m, .l (bc ((bs.drop a).take m)), .i 0] := by
  have hin := inside_at (n := bs.length) (l := bc bs) (a := (a : Int)) (s := (m : Int)) (by omega) (by omega) (by omega) (by omega)
  have e1 : i64 ((a : Int) + (m : Int)) = ((a + m : Nat) : Int) := by rw [i64_in _ (by omega)]; omega
  have hl := bc_len bs
  have e2 : List.take m (List.drop a (bc bs)) = bc ((bs.drop a).take m) := by unfold bc; rw [List.map_take, List.map_drop]
  have e3 := clone2 (bs := (bs.drop a).take m) (n := m) (by simp; omega) (by simp; omega)
  have e4 : a + m - a = m := by omega
  unfold F_bigend_Bytes
  simp (disch := omega) only [onI_c, onS_c, onB_c, onN_c, onL_c, Option.bind_some, Option.map_some, cond_true, cond_false, ↓onI_c, ↓onS_c, ↓onB_c, ↓onN_c, ↓onL_c, ↓Option.bind_some, ↓cond_true, ↓cond_false, decide_eq_true, decide_eq_false, Bool.not_true, Bool.not_false, Int.toNat_natCast, List.length_append, List.length_cons, List.length_nil, List.drop_zero, Nat.zero_add, Nat.add_zero, decT, decF, bneI_t, bneI_f, hin, e1, e4, e2, e3, hl]
theorem getp_at {s a : Nat} {bs : List UInt8} (h : s = 1 ∨ s = 4 ∨ s = 8) (hb : bs.length ≤ 100000) (ha : a + s ≤ bs.length) : F_bigend_Get [.n bs.length, .l (bc bs), .i (a : Int), .i (s : Int)] = some [.i (gval ((bs.drop a).take s)), .i 0] := by
  have hsz := size_at (s := (s : Int)) (by omega)
  have hin := inside_at (n := bs.length) (l := bc bs) (a := (a : Int)) (s := (s : Int)) (by omega) (by omega) (by omega) (by omega)
  have hl : ((bs.drop a).take s).length = s := by simp; omega
  have hg : ∀ i, i < s → bs.getD (a + i) 0 = ((bs.drop a).take s).getD i 0 := by
    intro i hi
    simp [List.getD, List.getElem?_take, List.getElem?_drop, hi]
  have hsb := sgn_bound (((bs.drop a).take s).getD 0 0)
  have hrun := getp_run (s := s) (a := a) (n := bs.length) (by omega) rfl hb hl ha hg (s - 1) 0 (sgn (((bs.drop a).take s).getD 0 0)) (by omega) (by show -128 ≤ _; omega) (by show _ < 128; omega)
  have e3 : asI .u8 ((bc bs)[a]?) = some ((((bs.drop a).take s).getD 0 0).toNat : Int) := by
    have := hg 0 (by omega)
    rw [Nat.add_zero] at this
    rw [bc_get (by omega), this]
  have hc := u8_lt (((bs.drop a).take s).getD 0 0)
  have e4 : i64 (i8 ((((bs.drop a).take s).getD 0 0).toNat : Int)) = sgn (((bs.drop a).take s).getD 0 0) := by
    rw [i8_eq, i64_in _ (by omega)]
    unfold sgn
    split <;> omega
  unfold gval
  generalize (bs.drop a).take s = l at *
  clear hg hc hsb
  unfold F_bigend_Get
  simp (disch := omega) only [onI_c, onS_c, onB_c, onN_c, onL_c, Option.bind_some, Option.map_some, cond_true, cond_false, ↓onI_c, ↓onS_c, ↓onB_c, ↓onN_c, ↓onL_c, ↓Option.bind_some, ↓cond_true, ↓cond_false, decide_eq_true, decide_eq_false, Bool.not_true, Bool.not_false, Int.toNat_natCast, List.length_append, List.length_cons, List.length_nil, List.drop_zero, Nat.zero_add, Nat.add_zero, decT, decF, bneI_t, bneI_f, hsz, hin, e3, e4]
  exact hrun
theorem sgn_nat (c : UInt8) : sgn c = ((c.toNat : Int) + 128) % 256 - 128 := by
  have := u8_lt c
  unfold sgn; split <;> omega
theorem u8_eq (x : Int) : u8 x = x % 256 := by
  unfold u8
  simp [IntKind.wrap, IntKind.bits, IntKind.signed]
theorem u32_eq (x : Int) : u32 x = x % 4294967296 := by
  unfold u32
  simp [IntKind.wrap, IntKind.bits, IntKind.signed]
theorem high_at {x : Int} (hx : -9223372036854775808 ≤ x ∧ x < 9223372036854775808) : gval (((enc 8 x).drop 0).take 4) = x / 2 ^ 32 := by
  have b4 := byteAt_nat x 4
  have b5 := byteAt_nat x 5
  have b6 := byteAt_nat x 6
  have b7 := byteAt_nat x 7
  have d5 : x / 2 ^ (8 * 5) = x / 2 ^ (8 * 4) / 256 := div_step x 4
  have d6 : x / 2 ^ (8 * 6) = x / 2 ^ (8 * 5) / 256 := div_step x 5
  have d7 : x / 2 ^ (8 * 7) = x / 2 ^ (8 * 6) / 256 := div_step x 6
  have h7 : -128 ≤ x / 2 ^ (8 * 7) ∧ x / 2 ^ (8 * 7) < 128 := by
    show -128 ≤ x / 72057594037927936 ∧ x / 72057594037927936 < 128
    omega
  have s7 := sgn_nat (byteAt x 7)
  show 256 * (256 * (256 * sgn (byteAt x 7) + ((byteAt x 6).toNat : Int)) + ((byteAt x 5).toNat : Int)) + ((byteAt x 4).toNat : Int) = x / 2 ^ (8 * 4)
  rw [s7, b7, b6, b5, b4]
  clear s7 b7 b6 b5 b4 hx
  generalize x / 2 ^ (8 * 7) = q7 at *
  generalize x / 2 ^ (8 * 6) = q6 at *
  generalize x / 2 ^ (8 * 5) = q5 at *
  generalize x / 2 ^ (8 * 4) = q4 at *
  omega
theorem low_at (x : Int) : u32 (gval (((enc 8 x).drop 4).take 4)) = u32 x := by
  have b0 := byteAt_nat x 0
  have b1 := byteAt_nat x 1
  have b2 := byteAt_nat x 2
  have b3 := byteAt_nat x 3
  have d0 : x / 2 ^ (8 * 0) = x := by show x / 1 = x; omega
  have d1 : x / 2 ^ (8 * 1) = x / 2 ^ (8 * 0) / 256 := div_step x 0
  have d2 : x / 2 ^ (8 * 2) = x / 2 ^ (8 * 1) / 256 := div_step x 1
  have d3 : x / 2 ^ (8 * 3) = x / 2 ^ (8 * 2) / 256 := div_step x 2
  have s3 := sgn_nat (byteAt x 3)
  rw [u32_eq, u32_eq]
  show (256 * (256 * (256 * sgn (byteAt x 3) + ((byteAt x 2).toNat : Int)) + ((byteAt x 1).toNat : Int)) + ((byteAt x 0).toNat : Int)) % 4294967296 = x % 4294967296
  rw [s3, b3, b2, b1, b0]
  clear s3 b3 b2 b1 b0
  rw [d0] at *
  generalize x / 2 ^ (8 * 3) = q3 at *
  generalize x / 2 ^ (8 * 2) = q2 at *
  generalize x / 2 ^ (8 * 1) = q1 at *
  omega
theorem one_at (x : Int) {i : Nat} (h : i < 8) : ((enc 8 x).drop i).take 1 = [byteAt x (7 - i)] := by
  have : i = 0 ∨ i = 1 ∨ i = 2 ∨ i = 3 ∨ i = 4 ∨ i = 5 ∨ i = 6 ∨ i = 7 := by omega
  rcases this with rfl | rfl | rfl | rfl | rfl | rfl | rfl | rfl <;> rfl
theorem gval_one (c : UInt8) : u8 (gval [c]) = (c.toNat : Int) := by
  have := u8_lt c
  rw [u8_eq]
  show sgn c % 256 = _
  rw [sgn_nat]; omega
theorem cell_one (x : Int) {k : Nat} (h : k < 8) : u8 (arith .shr .i64 x ((8 * k : Nat) : Int)) = ((byteAt x k).toNat : Int) := by
  rw [shr_at x (by omega), u8_eq, byteAt_nat]
end Go.Proofs.Ytljbgkfoljjgbaa
