/-
  Big-endian numbers.
-/
import Derived.Test.YtljbgkfoljjgbaaFbio
import Derived.Test.YtljbgkfoljjgbaaAx32
import Derived.KernelRfl
import Derived.Test.YtljbgkfoljjgbaaAxT
namespace Go.Proofs.Ytljbgkfoljjgbaa
open Go.Ax Go.Lib
set_option linter.all false
set_option maxHeartbeats 8000000
attribute [local congr] cond_cong bind_cong onI_cong onB_cong onS_cong onN_cong onL_cong

/-- Bytes, as cells. -/
def bc1 (c : UInt8) : AV := .int .u8 (.sym (c.toNat : Int))
def bc (bs : List UInt8) : List AV := bs.map bc1
theorem bc_len (bs : List UInt8) : (bc bs).length = bs.length := by unfold bc; simp
theorem bc_app (a b : List UInt8) : bc (a ++ b) = bc a ++ bc b := by unfold bc; simp
theorem bc_closed : ∀ (bs : List UInt8), (bc bs).all (closedN 20) = true
  | [] => rfl
  | c :: bs => by
    have := bc_closed bs
    unfold bc at this ⊢
    rw [List.map_cons, List.all_cons, this]; rfl
theorem bc_take (n : Nat) (bs : List UInt8) : (bc bs).take n = bc (bs.take n) := by unfold bc; rw [List.map_take]
theorem bc_get {bs : List UInt8} {k : Nat} (h : k < bs.length) : asI .u8 ((bc bs)[k]?) = some ((bs.getD k 0).toNat : Int) := by
  unfold bc
  rw [List.getElem?_map, List.getElem?_eq_getElem h]
  simp [List.getD, h, bc1, asI, I.v]
theorem bytesOf_bc : ∀ (bs : List UInt8), bytesOf (bc bs) = some bs
  | [] => rfl
  | c :: bs => by
    have := bytesOf_bc bs
    unfold bc at this ⊢
    rw [List.map_cons]
    show (bytesOf (bs.map bc1)).map (UInt8.ofNat ((c.toNat : Int)).toNat :: ·) = _
    rw [this]; simp
/-- Zeros. -/
def zs (n : Nat) : List AV := listC n [(Ax.AV.int .u8 (Ax.I.lit 0))]
theorem zs_succ (n : Nat) : zs (n + 1) = (Ax.AV.int .u8 (Ax.I.lit 0)) :: zs n := rfl
theorem zs_len : ∀ n, (zs n).length = n
  | 0 => rfl
  | n + 1 => by rw [zs_succ, List.length_cons, zs_len n]
theorem zs_closed : ∀ n, (zs n).all (closedN 20) = true
  | 0 => rfl
  | n + 1 => by rw [zs_succ, List.all_cons, zs_closed n]; rfl
theorem zs_drop : ∀ p n, (zs (p + n)).drop p = zs n
  | 0, n => by rw [Nat.zero_add]; rfl
  | p + 1, n => by rw [show p + 1 + n = (p + n) + 1 by omega, zs_succ, List.drop_succ_cons]; exact zs_drop p n
/-- The byte of a number at a place, the last one being 0. -/
def byteAt (x : Int) (k : Nat) : UInt8 := UInt8.ofNat ((x / 2 ^ (8 * k)) % 256).toNat
theorem byteAt_nat (x : Int) (k : Nat) : ((byteAt x k).toNat : Int) = (x / 2 ^ (8 * k)) % 256 := by
  have h1 := Int.emod_nonneg (x / 2 ^ (8 * k)) (b := 256) (by omega)
  have h2 := Int.emod_lt_of_pos (x / 2 ^ (8 * k)) (b := 256) (by omega)
  unfold byteAt
  generalize (x / 2 ^ (8 * k)) % 256 = y at *
  rw [UInt8.toNat_ofNat']
  omega
/-- The bytes of a number. -/
def enc : Nat → Int → List UInt8
  | 0, _ => []
  | n + 1, x => byteAt x n :: enc n x
theorem enc_len : ∀ n x, (enc n x).length = n
  | 0, _ => rfl
  | n + 1, x => by unfold enc; rw [List.length_cons, enc_len n x]
theorem shr_at (x : Int) {k : Nat} (h : k ≤ 64) : arith .shr .i64 x (k : Int) = x / 2 ^ k := by
  show x.fdiv (2 ^ (min ((k : Int)).toNat IntKind.i64.bits)) = _
  have e : min ((k : Int)).toNat IntKind.i64.bits = k := by
    show min ((k : Int)).toNat 64 = k
    rw [Int.toNat_natCast]; omega
  rw [e, Int.fdiv_eq_ediv_of_nonneg _ (by exact Int.le_of_lt (Int.pow_pos (by omega)))]
theorem cell_at (x : Int) {r : Nat} (h : r ≤ 7) : Ax.AV.int .u8 (Ax.I.sym (u8 (arith .shr .i64 x ((8 * r : Nat) : Int)))) = bc1 (byteAt x r) := by
  unfold bc1
  rw [byteAt_nat, shr_at x (by omega), u8_eq]
theorem write_mid {α : Type} (a : List α) (z c : α) (r : List α) : write (a ++ z :: r) a.length [c] = a ++ c :: r := by
  unfold write
  simp
theorem put_run {s : Nat} {x : Int} {p : Nat} (hs : s ≤ 8) (hp : p ≤ 100000) : ∀ (r : Nat) (pre : List UInt8), pre.length + r = p + s → r ≤ s →
    iter F_bigend_Put_L0 [.i (s : Int), .i x, .n pre.length, .n (p + s), .i (s : Int), .i ((s : Int) - r), .l (bc pre ++ zs r)] = some [.n (p + s), .l (bc (pre ++ enc r x)), .i 0]
  | 0, pre, h, _ => by
    have hl := bc_len pre
    have e1 : (bc pre ++ zs 0) = bc pre := by show bc pre ++ [] = _; simp
    have e2 : List.take (pre.length * 1) (bc pre) = bc pre := List.take_of_length_le (by omega)
    have hc := bc_closed pre
    rw [e1]
    apply iter_end
    unfold F_bigend_Put_L0
    have hps : pre.length = p + s := by omega
    simp (disch := omega) only [onI_c, onS_c, onB_c, onN_c, onL_c, Option.bind_some, Option.map_some, cond_true, cond_false, ↓onI_c, ↓onS_c, ↓onB_c, ↓onN_c, ↓onL_c, ↓Option.bind_some, ↓cond_true, ↓cond_false, decide_eq_true, decide_eq_false, Bool.not_true, Bool.not_false, Int.toNat_natCast, List.length_append, List.length_cons, List.length_nil, List.drop_zero, Nat.zero_add, Nat.add_zero, decT, decF, bneI_t, bneI_f, e2, hl, hc]
    show some (Sum.inr [Dat.n pre.length, Dat.l (bc pre), Dat.i 0]) = _
    rw [hps]
    simp [enc]
  | r + 1, pre, h, hr => by
    have ih := put_run (x := x) hs hp r (pre ++ [byteAt x r]) (by simp; omega) (by omega)
    have hl := bc_len pre
    have hz := zs_len r
    have e1 : i64 (8 * i64 (i64 ((s : Int) - 1) - ((s : Int) - ((r + 1 : Nat) : Int)))) = ((8 * r : Nat) : Int) := by
      rw [i64_in ((s : Int) - 1) (by omega), i64_in ((s : Int) - 1 - _) (by omega), i64_in _ (by omega)]; omega
    have e2 : i64 ((s : Int) - ((r + 1 : Nat) : Int) + 1) = (s : Int) - r := by rw [i64_in _ (by omega)]; omega
    have e3 : write (bc pre ++ zs (r + 1)) pre.length [bc1 (byteAt x r)] = bc (pre ++ [byteAt x r]) ++ zs r := by
      rw [zs_succ, ← hl, write_mid, bc_app]; simp [bc]
    have e4 : (bc (pre ++ [byteAt x r]) ++ zs r).all (closedN 20) = true := by rw [List.all_append, bc_closed, zs_closed]; rfl
    have e5 : (bc pre ++ zs (r + 1)).length = pre.length + (r + 1) := by rw [List.length_append, hl, zs_len]
    have e6 : (pre ++ [byteAt x r]).length = pre.length + 1 := by simp
    rw [e6] at ih
    rw [show pre ++ enc (r + 1) x = (pre ++ [byteAt x r]) ++ enc r x by simp [enc], ← ih]
    apply iter_next
    have hc1 := cell_at x (r := r) (by omega)
    generalize byteAt x r = c at *
    unfold F_bigend_Put_L0
    simp (disch := omega) only [onI_c, onS_c, onB_c, onN_c, onL_c, Option.bind_some, Option.map_some, cond_true, cond_false, ↓onI_c, ↓onS_c, ↓onB_c, ↓onN_c, ↓onL_c, ↓Option.bind_some, ↓cond_true, ↓cond_false, decide_eq_true, decide_eq_false, Bool.not_true, Bool.not_false, Int.toNat_natCast, List.length_append, List.length_cons, List.length_nil, List.drop_zero, Nat.zero_add, Nat.add_zero, decT, decF, bneI_t, bneI_f, e1, e2, hc1, e3, e4, e5]
theorem size_at {s : Int} (h : s = 1 ∨ s = 4 ∨ s = 8) : F_bigend_isSize [.i s] = some [.b true] := by
  rcases h with rfl | rfl | rfl <;> rfl
theorem put_at {s : Nat} {x : Int} {bs : List UInt8} (h : s = 1 ∨ s = 4 ∨ s = 8) (hb : bs.length ≤ 100000) (h0 : x / 2 ^ (8 * s - 1) = 0 ∨ x / 2 ^ (8 * s - 1) = -1) :
    F_bigend_Put [.n bs.length, .l (bc bs), .i (s : Int), .i x] = some [.n (bs.length + s), .l (bc (bs ++ enc s x)), .i 0] := by
  have hs := size_at (s := (s : Int)) (by omega)
  have hl := bc_len bs
  have hrun := put_run (s := s) (x := x) (p := bs.length) (by omega) hb s bs rfl (Nat.le_refl _)
  have e1 : i64 (i64 (8 * (s : Int)) - 1) = ((8 * s - 1 : Nat) : Int) := by rw [i64_in (8 * _) (by omega), i64_in _ (by omega)]; omega
  have e2 := shr_at x (k := 8 * s - 1) (by omega)
  have e3 : i64 ((bs.length : Int) + (s : Int)) = ((bs.length + s : Nat) : Int) := by rw [i64_in _ (by omega)]; omega
  have e4 : write (listC (bs.length + s) [(Ax.AV.int .u8 (Ax.I.lit 0))]) 0 (bc bs) = bc bs ++ zs s := by
    unfold write
    show List.take 0 _ ++ bc bs ++ List.drop (0 + (bc bs).length) (zs (bs.length + s)) = _
    rw [hl, Nat.zero_add, zs_drop]; rfl
  have e5 : (listC (bs.length + s) [(Ax.AV.int .u8 (Ax.I.lit 0))]).length = bs.length + s := zs_len _
  have e6 : (bc bs ++ zs s).all (closedN 20) = true := by rw [List.all_append, bc_closed, zs_closed]; rfl
  have e7 : ((s : Int) - (s : Nat)) = 0 := by omega
  rw [e7] at hrun
  unfold F_bigend_Put
  rcases h0 with h0 | h0
  · rw [h0] at e2
    simp (disch := omega) only [onI_c, onS_c, onB_c, onN_c, onL_c, Option.bind_some, Option.map_some, cond_true, cond_false, ↓onI_c, ↓onS_c, ↓onB_c, ↓onN_c, ↓onL_c, ↓Option.bind_some, ↓cond_true, ↓cond_false, decide_eq_true, decide_eq_false, Bool.not_true, Bool.not_false, Int.toNat_natCast, List.length_append, List.length_cons, List.length_nil, List.drop_zero, Nat.zero_add, Nat.add_zero, decT, decF, bneI_t, bneI_f, hs, e1, e2, e3, e4, e5, e6, hl]
    exact hrun
  · rw [h0] at e2
    simp (disch := omega) only [onI_c, onS_c, onB_c, onN_c, onL_c, Option.bind_some, Option.map_some, cond_true, cond_false, ↓onI_c, ↓onS_c, ↓onB_c, ↓onN_c, ↓onL_c, ↓Option.bind_some, ↓cond_true, ↓cond_false, decide_eq_true, decide_eq_false, Bool.not_true, Bool.not_false, Int.toNat_natCast, List.length_append, List.length_cons, List.length_nil, List.drop_zero, Nat.zero_add, Nat.add_zero, decT, decF, bneI_t, bneI_f, hs, e1, e2, e3, e4, e5, e6, hl]
    exact hrun
theorem put_out {s : Nat} {x : Int} {n : Nat} {l : List AV} (h : s = 1 ∨ s = 4 ∨ s = 8) (h0 : x / 2 ^ (8 * s - 1) ≠ 0) (h1 : x / 2 ^ (8 * s - 1) ≠ -1) :
    F_bigend_Put [.n n, .l l, .i (s : Int), .i x] = some [.n 0, .l [], .i 3] := by
  have hs := size_at (s := (s : Int)) (by omega)
  have e1 : i64 (i64 (8 * (s : Int)) - 1) = ((8 * s - 1 : Nat) : Int) := by rw [i64_in (8 * _) (by omega), i64_in _ (by omega)]; omega
  have e2 := shr_at x (k := 8 * s - 1) (by omega)
  unfold F_bigend_Put
  generalize x / 2 ^ (8 * s - 1) = y at *
  simp (disch := omega) only [onI_c, onS_c, onB_c, onN_c, onL_c, Option.bind_some, Option.map_some, cond_true, cond_false, ↓onI_c, ↓onS_c, ↓onB_c, ↓onN_c, ↓onL_c, ↓Option.bind_some, ↓cond_true, ↓cond_false, decide_eq_true, decide_eq_false, Bool.not_true, Bool.not_false, Int.toNat_natCast, List.length_append, List.length_cons, List.length_nil, List.drop_zero, Nat.zero_add, Nat.add_zero, decT, decF, bneI_t, bneI_f, hs, e1, e2]
end Go.Proofs.Ytljbgkfoljjgbaa
