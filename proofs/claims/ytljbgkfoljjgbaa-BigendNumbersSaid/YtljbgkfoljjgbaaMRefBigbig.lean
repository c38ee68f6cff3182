/-
  Big-endian numbers: the document's own.
-/
import Derived.Test.YtljbgkfoljjgbaaMGetbig
namespace Go.Proofs.Ytljbgkfoljjgbaa
open Go.Ax Go.Lib
set_option linter.all false
set_option maxHeartbeats 8000000
attribute [local congr] cond_cong bind_cong onI_cong onB_cong onS_cong onN_cong onL_cong

theorem seq3_at {F : List Dat → Option (List Dat)} {ds : List Dat} {n : Nat} {l : List AV} (h : F ds = some [.n n, .l l]) : seq3 (.seq) F ds = some [.n n, .l l] := by
  unfold seq3; rw [h]; rfl
theorem clone1 {bs : List UInt8} (hb : bs.length ≤ 100000) : F_bytes_Clone [.n bs.length, .l (bc bs)] = some [.n bs.length, .l (bc bs)] := by
  refine seq3_at ?_
  cases bs with
  | nil => rfl
  | cons c bs =>
    have hl := bc_len (c :: bs)
    have hp : 0 < (c :: bs).length := by simp
    have hc := bc_closed (c :: bs)
    generalize hB : c :: bs = B at *
    have e : List.take (B.length * 1) (bc B) = bc B := List.take_of_length_le (by omega)
    unfold F_bytes_Clone_list
    simp (disch := omega) only [onI_c, onS_c, onB_c, onN_c, onL_c, Option.bind_some, Option.map_some, cond_true, cond_false, ↓onI_c, ↓onS_c, ↓onB_c, ↓onN_c, ↓onL_c, ↓Option.bind_some, ↓cond_true, ↓cond_false, decide_eq_true, decide_eq_false, Bool.not_true, Bool.not_false, Int.toNat_natCast, List.length_append, List.length_cons, List.length_nil, List.drop_zero, Nat.zero_add, Nat.add_zero, decT, decF, bneI_t, bneI_f, List.nil_append, hl, e, hc]
theorem clone2 {bs : List UInt8} {n : Nat} (hn : n = bs.length) (hb : bs.length ≤ 100000) : F_slices_Clonebyte_byte_ [.n n, .l (bc bs)] = some [.n n, .l (bc bs)] := by
  subst hn
  refine seq3_at ?_
  cases bs with
  | nil => rfl
  | cons c bs =>
    have hl := bc_len (c :: bs)
    have hp : 0 < (c :: bs).length := by simp
    have hc := bc_closed (c :: bs)
    generalize hB : c :: bs = B at *
    have e : List.take (B.length * 1) (bc B) = bc B := List.take_of_length_le (by omega)
    unfold F_slices_Clonebyte_byte__list
    simp (disch := omega) only [onI_c, onS_c, onB_c, onN_c, onL_c, Option.bind_some, Option.map_some, cond_true, cond_false, ↓onI_c, ↓onS_c, ↓onB_c, ↓onN_c, ↓onL_c, ↓Option.bind_some, ↓cond_true, ↓cond_false, decide_eq_true, decide_eq_false, Bool.not_true, Bool.not_false, Int.toNat_natCast, List.length_append, List.length_cons, List.length_nil, List.drop_zero, Nat.zero_add, Nat.add_zero, decT, decF, bneI_t, bneI_f, List.nil_append, hl, e, hc]
theorem size_no {s : Int} (h : s ≠ 1 ∧ s ≠ 4 ∧ s ≠ 8) : F_bigend_isSize [.i s] = some [.b false] := by
  unfold F_bigend_isSize
  simp (disch := omega) only [onI_c, onS_c, onB_c, onN_c, onL_c, Option.bind_some, Option.map_some, cond_true, cond_false, ↓onI_c, ↓onS_c, ↓onB_c, ↓onN_c, ↓onL_c, ↓Option.bind_some, ↓cond_true, ↓cond_false, decide_eq_true, decide_eq_false, Bool.not_true, Bool.not_false, Int.toNat_natCast, List.length_append, List.length_cons, List.length_nil, List.drop_zero, Nat.zero_add, Nat.add_zero, decT, decF, bneI_t, bneI_f]
theorem rsize_no {s : Int} (h : s ≠ 1 ∧ s ≠ 4 ∧ s ≠ 8) : F_ref41_size [.i s] = some [.b false] := by
  unfold F_ref41_size
  simp (disch := omega) only [onI_c, onS_c, onB_c, onN_c, onL_c, Option.bind_some, Option.map_some, cond_true, cond_false, ↓onI_c, ↓onS_c, ↓onB_c, ↓onN_c, ↓onL_c, ↓Option.bind_some, ↓cond_true, ↓cond_false, decide_eq_true, decide_eq_false, Bool.not_true, Bool.not_false, Int.toNat_natCast, List.length_append, List.length_cons, List.length_nil, List.drop_zero, Nat.zero_add, Nat.add_zero, decT, decF, bneI_t, bneI_f]
theorem rsize_at {s : Int} (h : s = 1 ∨ s = 4 ∨ s = 8) : F_ref41_size [.i s] = some [.b true] := by
  rcases h with rfl | rfl | rfl <;> rfl
theorem zs_snoc : ∀ j, zs (j + 1) = zs j ++ [(Ax.AV.int .u8 (Ax.I.lit 0))]
  | 0 => rfl
  | j + 1 => by
    have e : zs (j + 1) ++ [(Ax.AV.int .u8 (Ax.I.lit 0))] = (Ax.AV.int .u8 (Ax.I.lit 0)) :: (zs j ++ [(Ax.AV.int .u8 (Ax.I.lit 0))]) := rfl
    rw [e, ← zs_snoc j]; rfl
theorem shr8 (r : Int) : arith .shr .i64 r 8 = r / 256 := shr_at r (k := 8) (by omega)
theorem and_at (r : Int) : u8 (arith .and .i64 r 255) = r % 256 := by
  show u8 (i64 (((BitVec.ofInt 64 r &&& BitVec.ofInt 64 255).toNat : Nat) : Int)) = _
  rw [BitVec.toNat_and, BitVec.toNat_ofInt, BitVec.toNat_ofInt]
  have e : ((255 : Int) % ((2 ^ 64 : Nat) : Int)).toNat = 2 ^ 8 - 1 := rfl
  rw [e, Nat.and_two_pow_sub_one_eq_mod]
  have e2 : (r % ((2 ^ 64 : Nat) : Int)).toNat % 2 ^ 8 = (r % 256).toNat := by
    show (r % 18446744073709551616).toNat % 256 = (r % 256).toNat
    omega
  rw [e2, i64_in _ (by omega), u8_in _ (by omega)]
  omega
theorem rcell_at (x : Int) (d : Nat) : Ax.AV.int .u8 (Ax.I.sym (u8 (arith .and .i64 (x / 2 ^ (8 * d)) 255))) = bc1 (byteAt x d) := by
  unfold bc1
  rw [byteAt_nat, and_at]
theorem refput_run {s : Nat} {x : Int} {bn : Nat} {bl : List AV} (hs : s ≤ 8) : ∀ (j d : Nat), j + d = s →
    iter F_ref41_Put_L0 [.n bn, .l bl, .i (s : Int), .i (x / 2 ^ (8 * d)), .n s, .n s, .i ((j : Int) - 1), .l (zs j ++ bc (enc d x))] = iter F_ref41_Put_L0 [.n bn, .l bl, .i (s : Int), .i (x / 2 ^ (8 * s)), .n s, .n s, .i (-1), .l (bc (enc s x))]
  | 0, d, h => by
    have : d = s := by omega
    subst this
    rfl
  | j + 1, d, h => by
    have ih := refput_run (s := s) (x := x) (bn := bn) (bl := bl) hs j (d + 1) (by omega)
    rw [← ih]
    apply iter_next
    have e1 : (((j + 1 : Nat) : Int) - 1) = (j : Int) := by omega
    have e2 : i64 ((j : Int) - 1) = (j : Int) - 1 := i64_in _ (by omega)
    have e3 : write (zs (j + 1) ++ bc (enc d x)) j [bc1 (byteAt x d)] = zs j ++ bc (enc (d + 1) x) := by
      rw [zs_snoc, List.append_assoc]
      have := write_mid (zs j) (Ax.AV.int .u8 (Ax.I.lit 0)) (bc1 (byteAt x d)) (bc (enc d x))
      rw [zs_len] at this
      rw [List.singleton_append, this]; rfl
    have e4 : (zs (j + 1) ++ bc (enc d x)).length = j + 1 + d := by rw [List.length_append, zs_len, bc_len, enc_len]
    have e5 : (zs j ++ bc (enc (d + 1) x)).all (closedN 20) = true := by rw [List.all_append, zs_closed, bc_closed]; rfl
    have hd := div_step x d
    have hc := rcell_at x d
    rw [hd, e1]
    unfold F_ref41_Put_L0
    simp (disch := omega) only [onI_c, onS_c, onB_c, onN_c, onL_c, Option.bind_some, Option.map_some, cond_true, cond_false, ↓onI_c, ↓onS_c, ↓onB_c, ↓onN_c, ↓onL_c, ↓Option.bind_some, ↓cond_true, ↓cond_false, decide_eq_true, decide_eq_false, Bool.not_true, Bool.not_false, Int.toNat_natCast, List.length_append, List.length_cons, List.length_nil, List.drop_zero, Nat.zero_add, Nat.add_zero, decT, decF, bneI_t, bneI_f, hc, e2, e3, e4, e5, shr8]
theorem refput_end {s : Nat} {x : Int} {bs : List UInt8} (h : s = 1 ∨ s = 4 ∨ s = 8) (hb : bs.length ≤ 100000) (hx : -9223372036854775808 ≤ x ∧ x < 9223372036854775808) :
    F_ref41_Put_L0 [.n bs.length, .l (bc bs), .i (s : Int), .i (x / 2 ^ (8 * s)), .n s, .n s, .i (-1), .l (bc (enc s x))] =
      some (.inr (if x / 2 ^ (8 * s - 1) = 0 ∨ x / 2 ^ (8 * s - 1) = -1 then [.n (bs.length + s), .l (bc (bs ++ enc s x)), .i 0] else [.n 0, .l [], .i 3])) := by
  have hl := bc_len bs
  have he : (bc (enc s x)).length = s := by rw [bc_len, enc_len]
  have e0 : asI .u8 ((bc (enc s x))[0]?) = some ((byteAt x (s - 1)).toNat : Int) := by
    have h3 := enc_get x s (s - 1) (by omega)
    rw [show s - 1 - (s - 1) = 0 by omega] at h3
    rw [bc_get (by rw [enc_len]; omega), h3]
  have hb0 := byteAt_nat x (s - 1)
  rw [hb0] at e0
  have hy : (x / 2 ^ (8 * (s - 1))) / 128 = x / 2 ^ (8 * s - 1) := by
    rw [Int.ediv_ediv_of_nonneg (by have := pow_pos2 (8 * (s - 1)); omega)]
    congr 1
    rw [show 8 * s - 1 = 8 * (s - 1) + 7 by omega, Int.pow_add]; rfl
  have hr : x / 2 ^ (8 * s) = x / 2 ^ (8 * (s - 1)) / 256 := by
    have := div_step x (s - 1)
    rwa [show s - 1 + 1 = s by omega] at this
  have h8 : s = 8 → x / 2 ^ (8 * s - 1) = 0 ∨ x / 2 ^ (8 * s - 1) = -1 := by
    rintro rfl
    show x / 9223372036854775808 = 0 ∨ x / 9223372036854775808 = -1
    omega
  rw [hr, ← hy]
  rw [← hy] at h8
  clear hr hy hb0 hx
  generalize x / 2 ^ (8 * (s - 1)) = y at *
  have ec : List.take s (bc (enc s x)) = bc (enc s x) := List.take_of_length_le (by omega)
  have hcl : (bc (bs ++ enc s x)).all (closedN 20) = true := bc_closed _
  have hln : (bc (bs ++ enc s x)).length = bs.length + s := by rw [bc_len, List.length_append, enc_len]
  have et : List.take ((bs.length + s) * 1) (bc (bs ++ enc s x)) = bc (bs ++ enc s x) := List.take_of_length_le (by omega)
  have ea : bc bs ++ bc (enc s x) = bc (bs ++ enc s x) := (bc_app _ _).symm
  unfold F_ref41_Put_L0
  by_cases hin : y / 128 = 0 ∨ y / 128 = -1
  · rw [if_pos hin]
    have key : ∃ b1, (bif decide (128 ≤ y % 256) then some true else some false) = some b1 ∧ (b1 = true → y / 256 = -1 ∧ 128 ≤ y % 256) ∧ (b1 = false → y / 256 = 0 ∧ y % 256 < 128) := by
      by_cases h128 : 128 ≤ y % 256
      · exact ⟨true, by rw [decide_eq_true h128]; rfl, fun _ => by omega, (fun q => by cases q)⟩
      · exact ⟨false, by rw [decide_eq_false h128]; rfl, (fun q => by cases q), fun _ => by omega⟩
    obtain ⟨b1, k1, k2, k3⟩ := key
    by_cases hz : bs.length = 0
    · have hnil : bs = [] := List.length_eq_zero_iff.1 hz
      subst hnil
      have w0 : Ax.write [] 0 (bc []) = [] := rfl
      have z0 : (bc ([] : List UInt8)).length = 0 := rfl
      have z1 : ([] : List AV).length = 0 := rfl
      have t0 : List.take (0 : Nat) ([] : List AV) = [] := rfl
      simp only [List.nil_append, List.length_nil, Nat.zero_add] at hcl hln et
      cases b1 with
      | true =>
        have q := k2 rfl
        by_cases hs8 : (s : Int) < 8
        · simp (disch := omega) only [onI_c, onS_c, onB_c, onN_c, onL_c, Option.bind_some, Option.map_some, cond_true, cond_false, ↓onI_c, ↓onS_c, ↓onB_c, ↓onN_c, ↓onL_c, ↓Option.bind_some, ↓cond_true, ↓cond_false, decide_eq_true, decide_eq_false, Bool.not_true, Bool.not_false, Int.toNat_natCast, List.length_append, List.length_cons, List.length_nil, List.drop_zero, Nat.zero_add, Nat.add_zero, decT, decF, bneI_t, bneI_f, e0, k1, q.1, z0, z1, he, ec, w0, t0, List.nil_append, et, hcl]
        · simp (disch := omega) only [onI_c, onS_c, onB_c, onN_c, onL_c, Option.bind_some, Option.map_some, cond_true, cond_false, ↓onI_c, ↓onS_c, ↓onB_c, ↓onN_c, ↓onL_c, ↓Option.bind_some, ↓cond_true, ↓cond_false, decide_eq_true, decide_eq_false, Bool.not_true, Bool.not_false, Int.toNat_natCast, List.length_append, List.length_cons, List.length_nil, List.drop_zero, Nat.zero_add, Nat.add_zero, decT, decF, bneI_t, bneI_f, e0, k1, q.1, z0, z1, he, ec, w0, t0, List.nil_append, et, hcl]
      | false =>
        have q := k3 rfl
        by_cases hs8 : (s : Int) < 8
        · simp (disch := omega) only [onI_c, onS_c, onB_c, onN_c, onL_c, Option.bind_some, Option.map_some, cond_true, cond_false, ↓onI_c, ↓onS_c, ↓onB_c, ↓onN_c, ↓onL_c, ↓Option.bind_some, ↓cond_true, ↓cond_false, decide_eq_true, decide_eq_false, Bool.not_true, Bool.not_false, Int.toNat_natCast, List.length_append, List.length_cons, List.length_nil, List.drop_zero, Nat.zero_add, Nat.add_zero, decT, decF, bneI_t, bneI_f, e0, k1, q.1, z0, z1, he, ec, w0, t0, List.nil_append, et, hcl]
        · simp (disch := omega) only [onI_c, onS_c, onB_c, onN_c, onL_c, Option.bind_some, Option.map_some, cond_true, cond_false, ↓onI_c, ↓onS_c, ↓onB_c, ↓onN_c, ↓onL_c, ↓Option.bind_some, ↓cond_true, ↓cond_false, decide_eq_true, decide_eq_false, Bool.not_true, Bool.not_false, Int.toNat_natCast, List.length_append, List.length_cons, List.length_nil, List.drop_zero, Nat.zero_add, Nat.add_zero, decT, decF, bneI_t, bneI_f, e0, k1, q.1, z0, z1, he, ec, w0, t0, List.nil_append, et, hcl]
    · cases b1 with
      | true =>
        have q := k2 rfl
        by_cases hs8 : (s : Int) < 8
        · simp (disch := omega) only [onI_c, onS_c, onB_c, onN_c, onL_c, Option.bind_some, Option.map_some, cond_true, cond_false, ↓onI_c, ↓onS_c, ↓onB_c, ↓onN_c, ↓onL_c, ↓Option.bind_some, ↓cond_true, ↓cond_false, decide_eq_true, decide_eq_false, Bool.not_true, Bool.not_false, Int.toNat_natCast, List.length_append, List.length_cons, List.length_nil, List.drop_zero, Nat.zero_add, Nat.add_zero, decT, decF, bneI_t, bneI_f, e0, k1, q.1, hl, he, ec, List.nil_append, ea, hln, et, hcl]
        · simp (disch := omega) only [onI_c, onS_c, onB_c, onN_c, onL_c, Option.bind_some, Option.map_some, cond_true, cond_false, ↓onI_c, ↓onS_c, ↓onB_c, ↓onN_c, ↓onL_c, ↓Option.bind_some, ↓cond_true, ↓cond_false, decide_eq_true, decide_eq_false, Bool.not_true, Bool.not_false, Int.toNat_natCast, List.length_append, List.length_cons, List.length_nil, List.drop_zero, Nat.zero_add, Nat.add_zero, decT, decF, bneI_t, bneI_f, e0, k1, q.1, hl, he, ec, List.nil_append, ea, hln, et, hcl]
      | false =>
        have q := k3 rfl
        by_cases hs8 : (s : Int) < 8
        · simp (disch := omega) only [onI_c, onS_c, onB_c, onN_c, onL_c, Option.bind_some, Option.map_some, cond_true, cond_false, ↓onI_c, ↓onS_c, ↓onB_c, ↓onN_c, ↓onL_c, ↓Option.bind_some, ↓cond_true, ↓cond_false, decide_eq_true, decide_eq_false, Bool.not_true, Bool.not_false, Int.toNat_natCast, List.length_append, List.length_cons, List.length_nil, List.drop_zero, Nat.zero_add, Nat.add_zero, decT, decF, bneI_t, bneI_f, e0, k1, q.1, hl, he, ec, List.nil_append, ea, hln, et, hcl]
        · simp (disch := omega) only [onI_c, onS_c, onB_c, onN_c, onL_c, Option.bind_some, Option.map_some, cond_true, cond_false, ↓onI_c, ↓onS_c, ↓onB_c, ↓onN_c, ↓onL_c, ↓Option.bind_some, ↓cond_true, ↓cond_false, decide_eq_true, decide_eq_false, Bool.not_true, Bool.not_false, Int.toNat_natCast, List.length_append, List.length_cons, List.length_nil, List.drop_zero, Nat.zero_add, Nat.add_zero, decT, decF, bneI_t, bneI_f, e0, k1, q.1, hl, he, ec, List.nil_append, ea, hln, et, hcl]
  · rw [if_neg hin]
    have hs8 : (s : Int) < 8 := by
      by_cases q : s = 8
      · exact absurd (h8 q) hin
      · omega
    by_cases h128 : 128 ≤ y % 256
    · simp (disch := omega) only [onI_c, onS_c, onB_c, onN_c, onL_c, Option.bind_some, Option.map_some, cond_true, cond_false, ↓onI_c, ↓onS_c, ↓onB_c, ↓onN_c, ↓onL_c, ↓Option.bind_some, ↓cond_true, ↓cond_false, decide_eq_true, decide_eq_false, Bool.not_true, Bool.not_false, Int.toNat_natCast, List.length_append, List.length_cons, List.length_nil, List.drop_zero, Nat.zero_add, Nat.add_zero, decT, decF, bneI_t, bneI_f, e0]
    · simp (disch := omega) only [onI_c, onS_c, onB_c, onN_c, onL_c, Option.bind_some, Option.map_some, cond_true, cond_false, ↓onI_c, ↓onS_c, ↓onB_c, ↓onN_c, ↓onL_c, ↓Option.bind_some, ↓cond_true, ↓cond_false, decide_eq_true, decide_eq_false, Bool.not_true, Bool.not_false, Int.toNat_natCast, List.length_append, List.length_cons, List.length_nil, List.drop_zero, Nat.zero_add, Nat.add_zero, decT, decF, bneI_t, bneI_f, e0]
end Go.Proofs.Ytljbgkfoljjgbaa
