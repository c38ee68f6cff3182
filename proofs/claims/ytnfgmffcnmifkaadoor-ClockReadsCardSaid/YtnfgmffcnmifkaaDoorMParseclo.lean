/-
  Amounts of time: what is read.
-/
import Derived.Test.YtnfgmffcnmifkaaDoorMPrintclo
import Derived.Test.YtnfgmffcnmifkaaDoorAx32
namespace Go.Proofs.YtnfgmffcnmifkaaDoor
open Go.Ax Go.Lib
set_option linter.all false
set_option maxHeartbeats 2000000
attribute [local congr] cond_cong bind_cong onI_cong onB_cong onS_cong onN_cong onL_cong

def isD (c : UInt8) : Bool := decide (48 ≤ c.toNat ∧ c.toNat ≤ 57)
def dig (c : UInt8) : Int := (c.toNat : Int) - 48
def dstep (n : Int) (c : UInt8) : Int := if 1000 < 10 * n + dig c then 1000 else 10 * n + dig c
def dval : Int → List UInt8 → Int
  | n, [] => n
  | n, c :: cs => dval (dstep n c) cs
theorem isD_iff {c : UInt8} : isD c = true ↔ 48 ≤ c.toNat ∧ c.toNat ≤ 57 := by unfold isD; simp
theorem dstep_bound {n : Int} {c : UInt8} (hn : 0 ≤ n ∧ n ≤ 1000) (hd : isD c = true) : 0 ≤ dstep n c ∧ dstep n c ≤ 1000 := by
  obtain ⟨h1, h2⟩ := isD_iff.1 hd
  unfold dstep dig
  split <;> omega

theorem L0_digit {n : Int} {c : Nat} {s : List UInt8} {cells : List AV} (hn : 0 ≤ n ∧ n ≤ 1000) (hc : c < s.length) (hs : s.length < 4611686018427387904) (hd : isD (s.getD c 0) = true) (hcl : cells.all (closedN 20) = true) :
    F_offset_split_L0 [.i n, .i (c : Int), .s s, .l cells] = some (.inl [.i (dstep n (s.getD c 0)), .i ((c + 1 : Nat) : Int), .s s, .l cells]) := by
  obtain ⟨h1, h2⟩ := isD_iff.1 hd
  unfold F_offset_split_L0
  simp (disch := omega) only [onI_c, onS_c, onB_c, onN_c, onL_c, Option.bind_some, Option.map_some, cond_true, cond_false, ↓onI_c, ↓onS_c, ↓onB_c, ↓onN_c, ↓onL_c, ↓Option.bind_some, ↓cond_true, ↓cond_false, decide_eq_true, decide_eq_false, Bool.not_true, Bool.not_false, i64_in, u8_in, u32_in, i32_in, u16_in, u64_in, Int.toNat_natCast, List.length_append, List.length_cons, List.length_nil, tdiv_nn, tmod_nn, List.drop_zero, Nat.zero_add, Nat.add_zero, decT, decF, bneI_t, bneI_f, bytesOf_nil, bytesOf_cons, Isym_v, Ilit_v, hcl]
  rfl
theorem L2_digit {i j n : Int} {c : Nat} {s : List UInt8} {cells : List AV} (hn : 0 ≤ n ∧ n ≤ 1000) (hc : c < s.length) (hs : s.length < 4611686018427387904) (hd : isD (s.getD c 0) = true) (hcl : cells.all (closedN 20) = true) :
    F_offset_split_L2 i j [.i n, .i (c : Int), .s s, .l cells] = some (.inl [.i (dstep n (s.getD c 0)), .i ((c + 1 : Nat) : Int), .s s, .l cells]) := by
  obtain ⟨h1, h2⟩ := isD_iff.1 hd
  unfold F_offset_split_L2
  simp (disch := omega) only [onI_c, onS_c, onB_c, onN_c, onL_c, Option.bind_some, Option.map_some, cond_true, cond_false, ↓onI_c, ↓onS_c, ↓onB_c, ↓onN_c, ↓onL_c, ↓Option.bind_some, ↓cond_true, ↓cond_false, decide_eq_true, decide_eq_false, Bool.not_true, Bool.not_false, i64_in, u8_in, u32_in, i32_in, u16_in, u64_in, Int.toNat_natCast, List.length_append, List.length_cons, List.length_nil, tdiv_nn, tmod_nn, List.drop_zero, Nat.zero_add, Nat.add_zero, decT, decF, bneI_t, bneI_f, bytesOf_nil, bytesOf_cons, Isym_v, Ilit_v, hcl]
  rfl

theorem run_digits {β : Type} {F : List Dat → Option (List Dat ⊕ β)} {s : List UInt8} {cells : List AV}
    (hF : ∀ (n : Int) (c : Nat), (0 ≤ n ∧ n ≤ 1000) → c < s.length → isD (s.getD c 0) = true → F [.i n, .i (c : Int), .s s, .l cells] = some (.inl [.i (dstep n (s.getD c 0)), .i ((c + 1 : Nat) : Int), .s s, .l cells])) :
    ∀ (m c : Nat) (n : Int), s.length - c = m → c ≤ s.length → (0 ≤ n ∧ n ≤ 1000) →
      iter F [.i n, .i (c : Int), .s s, .l cells] = iter F [.i (dval n ((s.drop c).takeWhile isD)), .i ((c + ((s.drop c).takeWhile isD).length : Nat) : Int), .s s, .l cells]
  | 0, c, n, hm, hc, hn => by
    rw [List.drop_eq_nil_of_le (by omega)]; rfl
  | m + 1, c, n, hm, hc, hn => by
    have hlt : c < s.length := by omega
    rw [List.drop_eq_getElem_cons hlt]
    have hg : s.getD c 0 = s[c] := by simp [List.getD, hlt]
    rw [List.takeWhile_cons]
    by_cases hd : isD s[c] = true
    · rw [if_pos hd]
      rw [iter_next (hF n c hn hlt (by rw [hg]; exact hd)), run_digits hF m (c + 1) _ (by omega) (by omega) (dstep_bound hn (by rw [hg]; exact hd)), hg]
      rw [List.length_cons, show c + 1 + ((s.drop (c + 1)).takeWhile isD).length = c + (((s.drop (c + 1)).takeWhile isD).length + 1) by omega]
      rfl
    · rw [if_neg hd]; rfl
theorem takeWhile_len : ∀ (l : List UInt8), (l.takeWhile isD).length ≤ l.length
  | [] => by simp
  | x :: l => by
    have := takeWhile_len l
    rw [List.takeWhile_cons]
    split <;> simp <;> omega
/-- Where the digits end. -/
def Ends (s : List UInt8) (c : Nat) : Prop := c = s.length ∨ (c < s.length ∧ (s.getD c 0).toNat < 48) ∨ (c < s.length ∧ 57 < (s.getD c 0).toNat)
theorem ends_at {s : List UInt8} : ∀ (m c : Nat), s.length - c = m → c ≤ s.length → Ends s (c + ((s.drop c).takeWhile isD).length)
  | 0, c, hm, hc => by
    rw [List.drop_eq_nil_of_le (by omega)]; left; simp; omega
  | m + 1, c, hm, hc => by
    have hlt : c < s.length := by omega
    rw [List.drop_eq_getElem_cons hlt]
    have hg : s.getD c 0 = s[c] := by simp [List.getD, hlt]
    rw [List.takeWhile_cons]
    by_cases hd : isD s[c] = true
    · rw [if_pos hd, List.length_cons, show c + (((s.drop (c + 1)).takeWhile isD).length + 1) = c + 1 + ((s.drop (c + 1)).takeWhile isD).length by omega]
      exact ends_at m (c + 1) (by omega) (by omega)
    · rw [if_neg hd]
      right
      have : ¬ (48 ≤ s[c].toNat ∧ s[c].toNat ≤ 57) := fun h => hd (isD_iff.2 h)
      rw [List.length_nil, Nat.add_zero, hg]
      omega
theorem ends_cond {s : List UInt8} {c : Nat} (he : Ends s c) : (bif (decide ((c : Int) < ((s.length : Nat) : Int))) then (bif (decide ((0 ≤ (c : Int)) ∧ ((c : Int) < ((s.length : Nat) : Int)))) then (bif (decide (48 ≤ (((s.getD ((c : Int)).toNat 0).toNat : Nat) : Int))) then (bif (decide ((0 ≤ (c : Int)) ∧ ((c : Int) < ((s.length : Nat) : Int)))) then (bif (decide ((((s.getD ((c : Int)).toNat 0).toNat : Nat) : Int) ≤ 57)) then (some true) else
     (some false)) else none) else
    (some false)) else none) else
   (some false)) = some false := by
  rcases he with he | ⟨he, hd⟩ | ⟨he, hd⟩ <;> simp (disch := omega) only [onI_c, onS_c, onB_c, onN_c, onL_c, Option.bind_some, Option.map_some, cond_true, cond_false, ↓onI_c, ↓onS_c, ↓onB_c, ↓onN_c, ↓onL_c, ↓Option.bind_some, ↓cond_true, ↓cond_false, decide_eq_true, decide_eq_false, Bool.not_true, Bool.not_false, i64_in, u8_in, u32_in, i32_in, u16_in, u64_in, Int.toNat_natCast, List.length_append, List.length_cons, List.length_nil, tdiv_nn, tmod_nn, List.drop_zero, Nat.zero_add, Nat.add_zero, decT, decF, bneI_t, bneI_f, bytesOf_nil, bytesOf_cons, Isym_v, Ilit_v]
def c1 (n : Int) : AV := .int .i64 (.sym n)
def c0 : AV := .int .i64 (.lit 0)
def no3 : List Dat := [.i 0, .i 0, .i 0, .b false]
theorem L0_bad {n : Int} {c : Nat} {s : List UInt8} (hs : s.length < 4611686018427387904) (he : Ends s c) (hb : c < 1 ∨ 3 < c ∨ (1 < c ∧ c ≤ s.length ∧ (s.getD 0 0).toNat = 48)) :
    F_offset_split_L0 [.i n, .i (c : Int), .s s, .l [c0, c0, c0]] = some (.inr no3) := by
  unfold F_offset_split_L0
  simp only [onI_c, onS_c, onL_c]
  rw [ends_cond he]
  simp only [Option.bind_some, cond_false]
  by_cases h9 : c < 1
  · simp (disch := first | omega | rfl) only [onI_c, onS_c, onB_c, onN_c, onL_c, Option.bind_some, Option.map_some, cond_true, cond_false, ↓onI_c, ↓onS_c, ↓onB_c, ↓onN_c, ↓onL_c, ↓Option.bind_some, ↓cond_true, ↓cond_false, decide_eq_true, decide_eq_false, Bool.not_true, Bool.not_false, i64_in, u8_in, u32_in, i32_in, u16_in, u64_in, Int.toNat_natCast, List.length_append, List.length_cons, List.length_nil, tdiv_nn, tmod_nn, List.drop_zero, Nat.zero_add, Nat.add_zero, decT, decF, bneI_t, bneI_f, bytesOf_nil, bytesOf_cons, Isym_v, Ilit_v]; rfl
  · by_cases h8 : 3 < c
    · simp (disch := first | omega | rfl) only [onI_c, onS_c, onB_c, onN_c, onL_c, Option.bind_some, Option.map_some, cond_true, cond_false, ↓onI_c, ↓onS_c, ↓onB_c, ↓onN_c, ↓onL_c, ↓Option.bind_some, ↓cond_true, ↓cond_false, decide_eq_true, decide_eq_false, Bool.not_true, Bool.not_false, i64_in, u8_in, u32_in, i32_in, u16_in, u64_in, Int.toNat_natCast, List.length_append, List.length_cons, List.length_nil, tdiv_nn, tmod_nn, List.drop_zero, Nat.zero_add, Nat.add_zero, decT, decF, bneI_t, bneI_f, bytesOf_nil, bytesOf_cons, Isym_v, Ilit_v]; rfl
    · have h1 : 1 < c ∧ c ≤ s.length ∧ (s.getD 0 0).toNat = 48 := by omega
      simp (disch := first | omega | rfl) only [onI_c, onS_c, onB_c, onN_c, onL_c, Option.bind_some, Option.map_some, cond_true, cond_false, ↓onI_c, ↓onS_c, ↓onB_c, ↓onN_c, ↓onL_c, ↓Option.bind_some, ↓cond_true, ↓cond_false, decide_eq_true, decide_eq_false, Bool.not_true, Bool.not_false, i64_in, u8_in, u32_in, i32_in, u16_in, u64_in, Int.toNat_natCast, List.length_append, List.length_cons, List.length_nil, tdiv_nn, tmod_nn, List.drop_zero, Nat.zero_add, Nat.add_zero, decT, decF, bneI_t, bneI_f, bytesOf_nil, bytesOf_cons, Isym_v, Ilit_v]; rfl
theorem L0_good {n : Int} {c : Nat} {s : List UInt8} (hs : s.length < 4611686018427387904) (he : Ends s c) (h1 : 1 ≤ c) (h3 : c ≤ 3) (hc : c ≤ s.length) (h0 : c = 1 ∨ (s.getD 0 0).toNat ≠ 48) :
    F_offset_split_L0 [.i n, .i (c : Int), .s s, .l [c0, c0, c0]] = (iter F_offset_split_L1 [.i 1, .s s, .l [c1 n, c0, c0], .i (c : Int)]).map .inr := by
  unfold F_offset_split_L0
  simp only [onI_c, onS_c, onL_c]
  rw [ends_cond he]
  simp only [Option.bind_some, cond_false]
  by_cases h9 : 1 < c
  · simp (disch := first | omega | rfl) only [onI_c, onS_c, onB_c, onN_c, onL_c, Option.bind_some, Option.map_some, cond_true, cond_false, ↓onI_c, ↓onS_c, ↓onB_c, ↓onN_c, ↓onL_c, ↓Option.bind_some, ↓cond_true, ↓cond_false, decide_eq_true, decide_eq_false, Bool.not_true, Bool.not_false, i64_in, u8_in, u32_in, i32_in, u16_in, u64_in, Int.toNat_natCast, List.length_append, List.length_cons, List.length_nil, tdiv_nn, tmod_nn, List.drop_zero, Nat.zero_add, Nat.add_zero, decT, decF, bneI_t, bneI_f, bytesOf_nil, bytesOf_cons, Isym_v, Ilit_v]; rfl
  · simp (disch := first | omega | rfl) only [onI_c, onS_c, onB_c, onN_c, onL_c, Option.bind_some, Option.map_some, cond_true, cond_false, ↓onI_c, ↓onS_c, ↓onB_c, ↓onN_c, ↓onL_c, ↓Option.bind_some, ↓cond_true, ↓cond_false, decide_eq_true, decide_eq_false, Bool.not_true, Bool.not_false, i64_in, u8_in, u32_in, i32_in, u16_in, u64_in, Int.toNat_natCast, List.length_append, List.length_cons, List.length_nil, tdiv_nn, tmod_nn, List.drop_zero, Nat.zero_add, Nat.add_zero, decT, decF, bneI_t, bneI_f, bytesOf_nil, bytesOf_cons, Isym_v, Ilit_v]; rfl

theorem L2_good1 {n : Int} {j c : Nat} {a : Int} {s : List UInt8} (hs : s.length < 4611686018427387904) (he : Ends s c) (hc : c ≤ s.length) (hj : c = j + 3) (hn : n ≤ 59) :
    F_offset_split_L2 1 j [.i n, .i (c : Int), .s s, .l [c1 a, c0, c0]] = some (.inr (.inl [.i 2, .s s, .l [c1 a, c1 n, c0], .i (c : Int)])) := by
  unfold F_offset_split_L2
  simp only [onI_c, onS_c, onL_c]
  rw [ends_cond he]
  simp (disch := first | omega | rfl) only [onI_c, onS_c, onB_c, onN_c, onL_c, Option.bind_some, Option.map_some, cond_true, cond_false, ↓onI_c, ↓onS_c, ↓onB_c, ↓onN_c, ↓onL_c, ↓Option.bind_some, ↓cond_true, ↓cond_false, decide_eq_true, decide_eq_false, Bool.not_true, Bool.not_false, i64_in, u8_in, u32_in, i32_in, u16_in, u64_in, Int.toNat_natCast, List.length_append, List.length_cons, List.length_nil, tdiv_nn, tmod_nn, List.drop_zero, Nat.zero_add, Nat.add_zero, decT, decF, bneI_t, bneI_f, bytesOf_nil, bytesOf_cons, Isym_v, Ilit_v, show Int.toNat 1 = 1 from rfl, show (Ax.write [c1 a, c0, c0] 1 [(Ax.AV.int .i64 (Ax.I.sym n))])[1]? = some (c1 n) from rfl, show asI .i64 (some (c1 n)) = some n from rfl]
  rfl
theorem L2_bad1 {n : Int} {j c : Nat} {a : Int} {s : List UInt8} (hs : s.length < 4611686018427387904) (he : Ends s c) (hc : c ≤ s.length) (hjs : j < s.length) (hj : c ≠ j + 3 ∨ 59 < n) :
    F_offset_split_L2 1 j [.i n, .i (c : Int), .s s, .l [c1 a, c0, c0]] = some (.inr (.inr no3)) := by
  unfold F_offset_split_L2
  simp only [onI_c, onS_c, onL_c]
  rw [ends_cond he]
  by_cases h : c = j + 3
  · simp (disch := first | omega | rfl) only [onI_c, onS_c, onB_c, onN_c, onL_c, Option.bind_some, Option.map_some, cond_true, cond_false, ↓onI_c, ↓onS_c, ↓onB_c, ↓onN_c, ↓onL_c, ↓Option.bind_some, ↓cond_true, ↓cond_false, decide_eq_true, decide_eq_false, Bool.not_true, Bool.not_false, i64_in, u8_in, u32_in, i32_in, u16_in, u64_in, Int.toNat_natCast, List.length_append, List.length_cons, List.length_nil, tdiv_nn, tmod_nn, List.drop_zero, Nat.zero_add, Nat.add_zero, decT, decF, bneI_t, bneI_f, bytesOf_nil, bytesOf_cons, Isym_v, Ilit_v, show Int.toNat 1 = 1 from rfl, show (Ax.write [c1 a, c0, c0] 1 [(Ax.AV.int .i64 (Ax.I.sym n))])[1]? = some (c1 n) from rfl, show asI .i64 (some (c1 n)) = some n from rfl]
    rfl
  · simp (disch := first | omega | rfl) only [onI_c, onS_c, onB_c, onN_c, onL_c, Option.bind_some, Option.map_some, cond_true, cond_false, ↓onI_c, ↓onS_c, ↓onB_c, ↓onN_c, ↓onL_c, ↓Option.bind_some, ↓cond_true, ↓cond_false, decide_eq_true, decide_eq_false, Bool.not_true, Bool.not_false, i64_in, u8_in, u32_in, i32_in, u16_in, u64_in, Int.toNat_natCast, List.length_append, List.length_cons, List.length_nil, tdiv_nn, tmod_nn, List.drop_zero, Nat.zero_add, Nat.add_zero, decT, decF, bneI_t, bneI_f, bytesOf_nil, bytesOf_cons, Isym_v, Ilit_v, show Int.toNat 1 = 1 from rfl]
    rfl
theorem L2_good2 {n : Int} {j c : Nat} {a b : Int} {s : List UInt8} (hs : s.length < 4611686018427387904) (he : Ends s c) (hc : c ≤ s.length) (hj : c = j + 3) (hn : n ≤ 59) :
    F_offset_split_L2 2 j [.i n, .i (c : Int), .s s, .l [c1 a, c1 b, c0]] = some (.inr (.inl [.i 3, .s s, .l [c1 a, c1 b, c1 n], .i (c : Int)])) := by
  unfold F_offset_split_L2
  simp only [onI_c, onS_c, onL_c]
  rw [ends_cond he]
  simp (disch := first | omega | rfl) only [onI_c, onS_c, onB_c, onN_c, onL_c, Option.bind_some, Option.map_some, cond_true, cond_false, ↓onI_c, ↓onS_c, ↓onB_c, ↓onN_c, ↓onL_c, ↓Option.bind_some, ↓cond_true, ↓cond_false, decide_eq_true, decide_eq_false, Bool.not_true, Bool.not_false, i64_in, u8_in, u32_in, i32_in, u16_in, u64_in, Int.toNat_natCast, List.length_append, List.length_cons, List.length_nil, tdiv_nn, tmod_nn, List.drop_zero, Nat.zero_add, Nat.add_zero, decT, decF, bneI_t, bneI_f, bytesOf_nil, bytesOf_cons, Isym_v, Ilit_v, show Int.toNat 2 = 2 from rfl, show (Ax.write [c1 a, c1 b, c0] 2 [(Ax.AV.int .i64 (Ax.I.sym n))])[2]? = some (c1 n) from rfl, show asI .i64 (some (c1 n)) = some n from rfl]
  rfl
theorem L2_bad2 {n : Int} {j c : Nat} {a b : Int} {s : List UInt8} (hs : s.length < 4611686018427387904) (he : Ends s c) (hc : c ≤ s.length) (hjs : j < s.length) (hj : c ≠ j + 3 ∨ 59 < n) :
    F_offset_split_L2 2 j [.i n, .i (c : Int), .s s, .l [c1 a, c1 b, c0]] = some (.inr (.inr no3)) := by
  unfold F_offset_split_L2
  simp only [onI_c, onS_c, onL_c]
  rw [ends_cond he]
  by_cases h : c = j + 3
  · simp (disch := first | omega | rfl) only [onI_c, onS_c, onB_c, onN_c, onL_c, Option.bind_some, Option.map_some, cond_true, cond_false, ↓onI_c, ↓onS_c, ↓onB_c, ↓onN_c, ↓onL_c, ↓Option.bind_some, ↓cond_true, ↓cond_false, decide_eq_true, decide_eq_false, Bool.not_true, Bool.not_false, i64_in, u8_in, u32_in, i32_in, u16_in, u64_in, Int.toNat_natCast, List.length_append, List.length_cons, List.length_nil, tdiv_nn, tmod_nn, List.drop_zero, Nat.zero_add, Nat.add_zero, decT, decF, bneI_t, bneI_f, bytesOf_nil, bytesOf_cons, Isym_v, Ilit_v, show Int.toNat 2 = 2 from rfl, show (Ax.write [c1 a, c1 b, c0] 2 [(Ax.AV.int .i64 (Ax.I.sym n))])[2]? = some (c1 n) from rfl, show asI .i64 (some (c1 n)) = some n from rfl]
    rfl
  · simp (disch := first | omega | rfl) only [onI_c, onS_c, onB_c, onN_c, onL_c, Option.bind_some, Option.map_some, cond_true, cond_false, ↓onI_c, ↓onS_c, ↓onB_c, ↓onN_c, ↓onL_c, ↓Option.bind_some, ↓cond_true, ↓cond_false, decide_eq_true, decide_eq_false, Bool.not_true, Bool.not_false, i64_in, u8_in, u32_in, i32_in, u16_in, u64_in, Int.toNat_natCast, List.length_append, List.length_cons, List.length_nil, tdiv_nn, tmod_nn, List.drop_zero, Nat.zero_add, Nat.add_zero, decT, decF, bneI_t, bneI_f, bytesOf_nil, bytesOf_cons, Isym_v, Ilit_v, show Int.toNat 2 = 2 from rfl]
    rfl
/-- The next part, behind a colon. -/
theorem L1_part1 {a : Int} {j : Nat} {s : List UInt8} (hs : s.length < 4611686018427387904) (hj : j < s.length) (h58 : (s.getD j 0).toNat = 58) :
    F_offset_split_L1 [.i 1, .s s, .l [c1 a, c0, c0], .i (j : Int)] = if ((s.drop (j + 1)).takeWhile isD).length = 2 ∧ dval 0 ((s.drop (j + 1)).takeWhile isD) ≤ 59
      then some (.inl [.i 2, .s s, .l [c1 a, c1 (dval 0 ((s.drop (j + 1)).takeWhile isD)), c0], .i ((j + 3 : Nat) : Int)]) else some (.inr no3) := by
  have hr := run_digits (F := F_offset_split_L2 1 j) (s := s) (cells := [c1 a, c0, c0]) (fun n c hn hc hd => L2_digit hn hc hs hd rfl) _ (j + 1) 0 rfl (by omega) (by omega)
  have he := ends_at (s := s) _ (j + 1) rfl (by omega)
  have hl : ((s.drop (j + 1)).takeWhile isD).length ≤ s.length - (j + 1) := by
    have := takeWhile_len (s.drop (j + 1))
    rwa [List.length_drop] at this
  generalize (s.drop (j + 1)).takeWhile isD = r at *
  unfold F_offset_split_L1
  simp (disch := first | omega | rfl) only [onI_c, onS_c, onB_c, onN_c, onL_c, Option.bind_some, Option.map_some, cond_true, cond_false, ↓onI_c, ↓onS_c, ↓onB_c, ↓onN_c, ↓onL_c, ↓Option.bind_some, ↓cond_true, ↓cond_false, decide_eq_true, decide_eq_false, Bool.not_true, Bool.not_false, i64_in, u8_in, u32_in, i32_in, u16_in, u64_in, Int.toNat_natCast, List.length_append, List.length_cons, List.length_nil, tdiv_nn, tmod_nn, List.drop_zero, Nat.zero_add, Nat.add_zero, decT, decF, bneI_t, bneI_f, bytesOf_nil, bytesOf_cons, Isym_v, Ilit_v]
  rw [show ((j : Int) + 1) = ((j + 1 : Nat) : Int) by omega, hr]
  split
  · rename_i h
    rw [iter_end (L2_good1 (j := j) (c := j + 1 + r.length) hs he (by omega) (by omega) h.2), show j + 1 + r.length = j + 3 by omega]; rfl
  · rename_i h
    rw [iter_end (L2_bad1 (j := j) (c := j + 1 + r.length) hs he (by omega) (by omega) (by omega))]; rfl
theorem L1_part2 {a b : Int} {j : Nat} {s : List UInt8} (hs : s.length < 4611686018427387904) (hj : j < s.length) (h58 : (s.getD j 0).toNat = 58) :
    F_offset_split_L1 [.i 2, .s s, .l [c1 a, c1 b, c0], .i (j : Int)] = if ((s.drop (j + 1)).takeWhile isD).length = 2 ∧ dval 0 ((s.drop (j + 1)).takeWhile isD) ≤ 59
      then some (.inl [.i 3, .s s, .l [c1 a, c1 b, c1 (dval 0 ((s.drop (j + 1)).takeWhile isD))], .i ((j + 3 : Nat) : Int)]) else some (.inr no3) := by
  have hr := run_digits (F := F_offset_split_L2 2 j) (s := s) (cells := [c1 a, c1 b, c0]) (fun n c hn hc hd => L2_digit hn hc hs hd rfl) _ (j + 1) 0 rfl (by omega) (by omega)
  have he := ends_at (s := s) _ (j + 1) rfl (by omega)
  have hl : ((s.drop (j + 1)).takeWhile isD).length ≤ s.length - (j + 1) := by
    have := takeWhile_len (s.drop (j + 1))
    rwa [List.length_drop] at this
  generalize (s.drop (j + 1)).takeWhile isD = r at *
  unfold F_offset_split_L1
  simp (disch := first | omega | rfl) only [onI_c, onS_c, onB_c, onN_c, onL_c, Option.bind_some, Option.map_some, cond_true, cond_false, ↓onI_c, ↓onS_c, ↓onB_c, ↓onN_c, ↓onL_c, ↓Option.bind_some, ↓cond_true, ↓cond_false, decide_eq_true, decide_eq_false, Bool.not_true, Bool.not_false, i64_in, u8_in, u32_in, i32_in, u16_in, u64_in, Int.toNat_natCast, List.length_append, List.length_cons, List.length_nil, tdiv_nn, tmod_nn, List.drop_zero, Nat.zero_add, Nat.add_zero, decT, decF, bneI_t, bneI_f, bytesOf_nil, bytesOf_cons, Isym_v, Ilit_v]
  rw [show ((j : Int) + 1) = ((j + 1 : Nat) : Int) by omega, hr]
  split
  · rename_i h
    rw [iter_end (L2_good2 (j := j) (c := j + 1 + r.length) hs he (by omega) (by omega) h.2), show j + 1 + r.length = j + 3 by omega]; rfl
  · rename_i h
    rw [iter_end (L2_bad2 (j := j) (c := j + 1 + r.length) hs he (by omega) (by omega) (by omega))]; rfl
/-- Another byte. -/
theorem L1_other {i : Int} {j : Nat} {cells : List AV} {s : List UInt8} (hi : i < 3) (hcl : cells.length = 3) (hs : s.length < 4611686018427387904) (hj : j < s.length) (h58 : (s.getD j 0).toNat ≠ 58) :
    F_offset_split_L1 [.i i, .s s, .l cells, .i (j : Int)] = some (.inr no3) := by
  unfold F_offset_split_L1
  simp (disch := first | omega | rfl) only [onI_c, onS_c, onB_c, onN_c, onL_c, Option.bind_some, Option.map_some, cond_true, cond_false, ↓onI_c, ↓onS_c, ↓onB_c, ↓onN_c, ↓onL_c, ↓Option.bind_some, ↓cond_true, ↓cond_false, decide_eq_true, decide_eq_false, Bool.not_true, Bool.not_false, i64_in, u8_in, u32_in, i32_in, u16_in, u64_in, Int.toNat_natCast, List.length_append, List.length_cons, List.length_nil, tdiv_nn, tmod_nn, List.drop_zero, Nat.zero_add, Nat.add_zero, decT, decF, bneI_t, bneI_f, bytesOf_nil, bytesOf_cons, Isym_v, Ilit_v]
  obtain ⟨x, y, z, rfl⟩ : ∃ x y z, cells = [x, y, z] := by
    match cells, hcl with
    | [x, y, z], _ => exact ⟨x, y, z, rfl⟩
  rfl
theorem L1_behind {a b d : Int} {j : Nat} {s : List UInt8} (hs : s.length < 4611686018427387904) (hj : j < s.length) :
    F_offset_split_L1 [.i 3, .s s, .l [c1 a, c1 b, c1 d], .i (j : Int)] = some (.inr no3) := by
  unfold F_offset_split_L1
  simp (disch := first | omega | rfl) only [onI_c, onS_c, onB_c, onN_c, onL_c, Option.bind_some, Option.map_some, cond_true, cond_false, ↓onI_c, ↓onS_c, ↓onB_c, ↓onN_c, ↓onL_c, ↓Option.bind_some, ↓cond_true, ↓cond_false, decide_eq_true, decide_eq_false, Bool.not_true, Bool.not_false, i64_in, u8_in, u32_in, i32_in, u16_in, u64_in, Int.toNat_natCast, List.length_append, List.length_cons, List.length_nil, tdiv_nn, tmod_nn, List.drop_zero, Nat.zero_add, Nat.add_zero, decT, decF, bneI_t, bneI_f, bytesOf_nil, bytesOf_cons, Isym_v, Ilit_v]
  rfl
/-- The end of the string. -/
theorem L1_end {i x y z : Int} {cells : List AV} {s : List UInt8} (hx : cells = [c1 x, c0, c0] ∧ y = 0 ∧ z = 0 ∨ cells = [c1 x, c1 y, c0] ∧ z = 0 ∨ cells = [c1 x, c1 y, c1 z]) (hs : s.length < 4611686018427387904) :
    F_offset_split_L1 [.i i, .s s, .l cells, .i (s.length : Int)] = some (.inr [.i x, .i y, .i z, .b true]) := by
  unfold F_offset_split_L1
  by_cases h3 : i < 3
  · simp (disch := first | omega | rfl) only [onI_c, onS_c, onB_c, onN_c, onL_c, Option.bind_some, Option.map_some, cond_true, cond_false, ↓onI_c, ↓onS_c, ↓onB_c, ↓onN_c, ↓onL_c, ↓Option.bind_some, ↓cond_true, ↓cond_false, decide_eq_true, decide_eq_false, Bool.not_true, Bool.not_false, i64_in, u8_in, u32_in, i32_in, u16_in, u64_in, Int.toNat_natCast, List.length_append, List.length_cons, List.length_nil, tdiv_nn, tmod_nn, List.drop_zero, Nat.zero_add, Nat.add_zero, decT, decF, bneI_t, bneI_f, bytesOf_nil, bytesOf_cons, Isym_v, Ilit_v]
    rcases hx with ⟨rfl, rfl, rfl⟩ | ⟨rfl, rfl⟩ | rfl <;> rfl
  · simp (disch := first | omega | rfl) only [onI_c, onS_c, onB_c, onN_c, onL_c, Option.bind_some, Option.map_some, cond_true, cond_false, ↓onI_c, ↓onS_c, ↓onB_c, ↓onN_c, ↓onL_c, ↓Option.bind_some, ↓cond_true, ↓cond_false, decide_eq_true, decide_eq_false, Bool.not_true, Bool.not_false, i64_in, u8_in, u32_in, i32_in, u16_in, u64_in, Int.toNat_natCast, List.length_append, List.length_cons, List.length_nil, tdiv_nn, tmod_nn, List.drop_zero, Nat.zero_add, Nat.add_zero, decT, decF, bneI_t, bneI_f, bytesOf_nil, bytesOf_cons, Isym_v, Ilit_v]
    rcases hx with ⟨rfl, rfl, rfl⟩ | ⟨rfl, rfl⟩ | rfl <;> rfl

/-- What a string is read as. -/
def psplit (s : List UInt8) : Option (Int × Int × Int) :=
  let r := s.takeWhile isD
  if r.length < 1 ∨ 3 < r.length ∨ (1 < r.length ∧ (s.getD 0 0).toNat = 48) then none
  else if r.length = s.length then some (dval 0 r, 0, 0)
  else if (s.getD r.length 0).toNat ≠ 58 then none
  else
    let r2 := (s.drop (r.length + 1)).takeWhile isD
    if ¬ (r2.length = 2 ∧ dval 0 r2 ≤ 59) then none
    else if r.length + 3 = s.length then some (dval 0 r, dval 0 r2, 0)
    else if (s.getD (r.length + 3) 0).toNat ≠ 58 then none
    else
      let r3 := (s.drop (r.length + 4)).takeWhile isD
      if ¬ (r3.length = 2 ∧ dval 0 r3 ≤ 59) then none
      else if r.length + 6 = s.length then some (dval 0 r, dval 0 r2, dval 0 r3)
      else none
def triple : Option (Int × Int × Int) → List Dat
  | some (x, y, z) => [.i x, .i y, .i z, .b true]
  | none => no3
theorem split_at {s : List UInt8} (hs : s.length < 4611686018427387904) : F_offset_split [.s s] = some (triple (psplit s)) := by
  unfold F_offset_split
  simp only [onS_c]
  have hr := run_digits (F := F_offset_split_L0) (s := s) (cells := [c0, c0, c0]) (fun n c hn hc hd => L0_digit hn hc hs hd rfl) _ 0 0 rfl (by omega) (by omega)
  have he := ends_at (s := s) _ 0 rfl (by omega)
  have hl := takeWhile_len s
  simp only [List.drop_zero, Nat.zero_add] at hr he
  show iter F_offset_split_L0 [.i 0, .i ((0 : Nat) : Int), .s s, .l [c0, c0, c0]] = _
  rw [hr]
  unfold psplit
  generalize s.takeWhile isD = r at *
  dsimp only
  by_cases hb : r.length < 1 ∨ 3 < r.length ∨ (1 < r.length ∧ (s.getD 0 0).toNat = 48)
  · rw [if_pos hb, iter_end (L0_bad hs he (by omega))]; rfl
  · rw [if_neg hb]
    have h1 := L0_good (n := dval 0 r) hs he (by omega) (by omega) hl (by omega)
    have key : ∀ x, iter F_offset_split_L1 [.i 1, .s s, .l [c1 (dval 0 r), c0, c0], .i (r.length : Int)] = some x → iter F_offset_split_L0 [.i (dval 0 r), .i (r.length : Int), .s s, .l [c0, c0, c0]] = some x := by
      intro x hx
      rw [hx] at h1
      exact iter_end h1
    apply key
    by_cases hend : r.length = s.length
    · rw [if_pos hend, hend]
      exact iter_end (L1_end (.inl ⟨rfl, rfl, rfl⟩) hs)
    · rw [if_neg hend]
      by_cases h58 : (s.getD r.length 0).toNat = 58
      · rw [if_neg (by omega)]
        have hp := L1_part1 (a := dval 0 r) hs (by omega) h58
        have hl2 := takeWhile_len (s.drop (r.length + 1))
        rw [List.length_drop] at hl2
        generalize (s.drop (r.length + 1)).takeWhile isD = r2 at *
        by_cases h2 : r2.length = 2 ∧ dval 0 r2 ≤ 59
        · rw [if_pos h2] at hp
          rw [if_neg (by omega), iter_next hp]
          by_cases hend2 : r.length + 3 = s.length
          · rw [if_pos hend2, hend2]
            exact iter_end (L1_end (.inr (.inl ⟨rfl, rfl⟩)) hs)
          · rw [if_neg hend2]
            by_cases h582 : (s.getD (r.length + 3) 0).toNat = 58
            · rw [if_neg (by omega)]
              have hp2 := L1_part2 (a := dval 0 r) (b := dval 0 r2) hs (by omega) h582
              have hl3 := takeWhile_len (s.drop (r.length + 3 + 1))
              rw [List.length_drop] at hl3
              generalize (s.drop (r.length + 3 + 1)).takeWhile isD = r3 at *
              by_cases h3 : r3.length = 2 ∧ dval 0 r3 ≤ 59
              · rw [if_pos h3] at hp2
                rw [if_neg (by omega), iter_next hp2]
                by_cases hend3 : r.length + 6 = s.length
                · rw [if_pos hend3, show r.length + 3 + 3 = r.length + 6 by omega, hend3]
                  exact iter_end (L1_end (.inr (.inr rfl)) hs)
                · rw [if_neg hend3]
                  exact iter_end (L1_behind hs (by omega))
              · rw [if_neg h3] at hp2
                rw [if_pos h3]
                exact iter_end hp2
            · rw [if_pos h582]
              exact iter_end (L1_other (by omega) rfl hs (by omega) h582)
        · rw [if_neg h2] at hp
          rw [if_pos h2]
          exact iter_end hp
      · rw [if_pos h58]
        exact iter_end (L1_other (by omega) rfl hs (by omega) h58)

/-- What a string without its sign is read as: the amount, or the error. -/
def psum : Option (Int × Int × Int) → Option Int
  | some (x, y, z) => some (3600 * x + 60 * y + z)
  | none => none
/-- The result of Parse. -/
def pres (minus : Bool) : Option Int → Int × Int
  | none => (0, 5)
  | some x => if minus then (if x = 0 then (0, 5) else if x > 604799 then (0, 3) else (-x, 0)) else (if x > 604799 then (0, 3) else (x, 0))
def pparse (s : List UInt8) : Int × Int :=
  if 0 < s.length ∧ (s.getD 0 0).toNat = 45 then pres true (psum (psplit (s.drop 1))) else pres false (psum (psplit s))
theorem dval_bound : ∀ (r : List UInt8) (n : Int), (0 ≤ n ∧ n ≤ 1000) → (∀ c ∈ r, isD c = true) → 0 ≤ dval n r ∧ dval n r ≤ 1000
  | [], n, h, _ => h
  | c :: r, n, h, hr => dval_bound r _ (dstep_bound h (hr c (by simp))) fun x hx => hr x (by simp [hx])
theorem takeWhile_all {p : UInt8 → Bool} : ∀ (l : List UInt8), ∀ c ∈ l.takeWhile p, p c = true
  | [], c, h => by simp at h
  | x :: l, c, h => by
    rw [List.takeWhile_cons] at h
    split at h
    · rename_i hx
      rcases List.mem_cons.1 h with rfl | h
      · exact hx
      · exact takeWhile_all l c h
    · simp at h
theorem dval_tw (l : List UInt8) : 0 ≤ dval 0 (l.takeWhile isD) ∧ dval 0 (l.takeWhile isD) ≤ 1000 := dval_bound _ 0 (by omega) (takeWhile_all l)
theorem psplit_bound {s : List UInt8} {x y z : Int} (h : psplit s = some (x, y, z)) : (0 ≤ x ∧ x ≤ 1000) ∧ (0 ≤ y ∧ y ≤ 59) ∧ 0 ≤ z ∧ z ≤ 59 := by
  unfold psplit at h
  dsimp only at h
  have b1 := dval_tw s
  have b2 := dval_tw (s.drop ((s.takeWhile isD).length + 1))
  have b3 := dval_tw (s.drop ((s.takeWhile isD).length + 4))
  split at h
  · cases h
  · split at h
    · cases h; omega
    · split at h
      · cases h
      · split at h
        · cases h
        · split at h
          · cases h; omega
          · split at h
            · cases h
            · split at h
              · cases h
              · split at h
                · cases h; omega
                · cases h
theorem hasPrefix_at {s t : List UInt8} : F_internal_stringslite_HasPrefix [.s s, .s t] = some [.b (t.isPrefixOf s)] := by
  unfold F_internal_stringslite_HasPrefix
  simp only [onS_c]
  by_cases h : t.length ≤ s.length
  · simp (disch := omega) only [onI_c, onS_c, onB_c, onN_c, onL_c, Option.bind_some, Option.map_some, cond_true, cond_false, ↓onI_c, ↓onS_c, ↓onB_c, ↓onN_c, ↓onL_c, ↓Option.bind_some, ↓cond_true, ↓cond_false, decide_eq_true, decide_eq_false, Bool.not_true, Bool.not_false, i64_in, u8_in, u32_in, i32_in, u16_in, u64_in, Int.toNat_natCast, List.length_append, List.length_cons, List.length_nil, tdiv_nn, tmod_nn, List.drop_zero, Nat.zero_add, Nat.add_zero, decT, decF, bneI_t, bneI_f, bytesOf_nil, bytesOf_cons, Isym_v, Ilit_v]
    by_cases hp : t.isPrefixOf s = true
    · have : s.take t.length = t := by
        have := List.isPrefixOf_iff_prefix.1 hp
        exact (List.prefix_iff_eq_take.1 this).symm
      rw [this, hp]; simp
    · have h2 : (s.take t.length == t) = false := by
        refine beq_f fun e => hp ?_
        rw [List.isPrefixOf_iff_prefix, List.prefix_iff_eq_take]; exact e.symm
      rw [h2]; simp [hp]
  · simp (disch := omega) only [onI_c, onS_c, onB_c, onN_c, onL_c, Option.bind_some, Option.map_some, cond_true, cond_false, ↓onI_c, ↓onS_c, ↓onB_c, ↓onN_c, ↓onL_c, ↓Option.bind_some, ↓cond_true, ↓cond_false, decide_eq_true, decide_eq_false, Bool.not_true, Bool.not_false, i64_in, u8_in, u32_in, i32_in, u16_in, u64_in, Int.toNat_natCast, List.length_append, List.length_cons, List.length_nil, tdiv_nn, tmod_nn, List.drop_zero, Nat.zero_add, Nat.add_zero, decT, decF, bneI_t, bneI_f, bytesOf_nil, bytesOf_cons, Isym_v, Ilit_v]
    have : t.isPrefixOf s = false := by
      rw [← Bool.not_eq_true]
      intro hp
      exact h (List.isPrefixOf_iff_prefix.1 hp).length_le
    rw [this]
theorem cutMinus_at {s : List UInt8} : F_strings_CutPrefix [.s s, .s [45]] = some (if 0 < s.length ∧ (s.getD 0 0).toNat = 45 then [.s (s.drop 1), .b true] else [.s s, .b false]) := by
  unfold F_strings_CutPrefix F_internal_stringslite_CutPrefix
  simp only [onS_c, hasPrefix_at, Option.bind_some, onB_c]
  cases s with
  | nil => rfl
  | cons c s =>
    by_cases h : c = 45
    · subst h
      have : ([45] : List UInt8).isPrefixOf (45 :: s) = true := by simp [List.isPrefixOf]
      rw [this, if_pos ⟨by simp, rfl⟩]
      simp (disch := omega) only [onI_c, onS_c, onB_c, onN_c, onL_c, Option.bind_some, Option.map_some, cond_true, cond_false, ↓onI_c, ↓onS_c, ↓onB_c, ↓onN_c, ↓onL_c, ↓Option.bind_some, ↓cond_true, ↓cond_false, decide_eq_true, decide_eq_false, Bool.not_true, Bool.not_false, i64_in, u8_in, u32_in, i32_in, u16_in, u64_in, Int.toNat_natCast, List.length_append, List.length_cons, List.length_nil, tdiv_nn, tmod_nn, List.drop_zero, Nat.zero_add, Nat.add_zero, decT, decF, bneI_t, bneI_f, bytesOf_nil, bytesOf_cons, Isym_v, Ilit_v]
      simp
    · have : ([45] : List UInt8).isPrefixOf (c :: s) = false := by
        simp [List.isPrefixOf]; intro e; exact h e.symm
      have h2 : c.toNat ≠ 45 := fun e => h (UInt8.toNat_inj.1 e)
      rw [this, if_neg (fun q => h2 q.2)]
      simp only [onI_c, onS_c, onB_c, onN_c, onL_c, Option.bind_some, Option.map_some, cond_true, cond_false, ↓onI_c, ↓onS_c, ↓onB_c, ↓onN_c, ↓onL_c, ↓Option.bind_some, ↓cond_true, ↓cond_false, decide_eq_true, decide_eq_false, Bool.not_true, Bool.not_false, i64_in, u8_in, u32_in, i32_in, u16_in, u64_in, Int.toNat_natCast, List.length_append, List.length_cons, List.length_nil, tdiv_nn, tmod_nn, List.drop_zero, Nat.zero_add, Nat.add_zero, decT, decF, bneI_t, bneI_f, bytesOf_nil, bytesOf_cons, Isym_v, Ilit_v]
theorem parse_at {s : List UInt8} (hs : s.length < 4611686018427387904) : F_offset_Parse [.s s] = some [.i (pparse s).1, .i (pparse s).2] := by
  unfold F_offset_Parse
  simp only [onS_c, cutMinus_at, Option.bind_some]
  unfold pparse
  by_cases hm : 0 < s.length ∧ (s.getD 0 0).toNat = 45
  · rw [if_pos hm, if_pos hm]
    simp only [onS_c, onB_c, split_at (show (s.drop 1).length < 4611686018427387904 by rw [List.length_drop]; omega), Option.bind_some]
    cases hp : psplit (s.drop 1) with
    | none => rfl
    | some t =>
      obtain ⟨x, y, z⟩ := t
      have := psplit_bound hp
      simp only [triple, psum, pres, if_true]
      by_cases h0 : 3600 * x + 60 * y + z = 0
      · rw [if_pos h0]
        simp (disch := omega) only [onI_c, onS_c, onB_c, onN_c, onL_c, Option.bind_some, Option.map_some, cond_true, cond_false, ↓onI_c, ↓onS_c, ↓onB_c, ↓onN_c, ↓onL_c, ↓Option.bind_some, ↓cond_true, ↓cond_false, decide_eq_true, decide_eq_false, Bool.not_true, Bool.not_false, i64_in, u8_in, u32_in, i32_in, u16_in, u64_in, Int.toNat_natCast, List.length_append, List.length_cons, List.length_nil, tdiv_nn, tmod_nn, List.drop_zero, Nat.zero_add, Nat.add_zero, decT, decF, bneI_t, bneI_f, bytesOf_nil, bytesOf_cons, Isym_v, Ilit_v]
      · rw [if_neg h0]
        by_cases hb : 3600 * x + 60 * y + z > 604799
        · rw [if_pos hb]
          simp (disch := omega) only [onI_c, onS_c, onB_c, onN_c, onL_c, Option.bind_some, Option.map_some, cond_true, cond_false, ↓onI_c, ↓onS_c, ↓onB_c, ↓onN_c, ↓onL_c, ↓Option.bind_some, ↓cond_true, ↓cond_false, decide_eq_true, decide_eq_false, Bool.not_true, Bool.not_false, i64_in, u8_in, u32_in, i32_in, u16_in, u64_in, Int.toNat_natCast, List.length_append, List.length_cons, List.length_nil, tdiv_nn, tmod_nn, List.drop_zero, Nat.zero_add, Nat.add_zero, decT, decF, bneI_t, bneI_f, bytesOf_nil, bytesOf_cons, Isym_v, Ilit_v]
        · rw [if_neg hb]
          simp (disch := omega) only [onI_c, onS_c, onB_c, onN_c, onL_c, Option.bind_some, Option.map_some, cond_true, cond_false, ↓onI_c, ↓onS_c, ↓onB_c, ↓onN_c, ↓onL_c, ↓Option.bind_some, ↓cond_true, ↓cond_false, decide_eq_true, decide_eq_false, Bool.not_true, Bool.not_false, i64_in, u8_in, u32_in, i32_in, u16_in, u64_in, Int.toNat_natCast, List.length_append, List.length_cons, List.length_nil, tdiv_nn, tmod_nn, List.drop_zero, Nat.zero_add, Nat.add_zero, decT, decF, bneI_t, bneI_f, bytesOf_nil, bytesOf_cons, Isym_v, Ilit_v]
          simp; omega
  · rw [if_neg hm, if_neg hm]
    simp only [onS_c, onB_c, split_at hs, Option.bind_some]
    cases hp : psplit s with
    | none => rfl
    | some t =>
      obtain ⟨x, y, z⟩ := t
      have := psplit_bound hp
      simp only [triple, psum, pres]
      by_cases hb : 3600 * x + 60 * y + z > 604799
      · rw [if_neg (by simp), if_pos hb]
        simp (disch := omega) only [onI_c, onS_c, onB_c, onN_c, onL_c, Option.bind_some, Option.map_some, cond_true, cond_false, ↓onI_c, ↓onS_c, ↓onB_c, ↓onN_c, ↓onL_c, ↓Option.bind_some, ↓cond_true, ↓cond_false, decide_eq_true, decide_eq_false, Bool.not_true, Bool.not_false, i64_in, u8_in, u32_in, i32_in, u16_in, u64_in, Int.toNat_natCast, List.length_append, List.length_cons, List.length_nil, tdiv_nn, tmod_nn, List.drop_zero, Nat.zero_add, Nat.add_zero, decT, decF, bneI_t, bneI_f, bytesOf_nil, bytesOf_cons, Isym_v, Ilit_v]
      · rw [if_neg (by simp), if_neg hb]
        simp (disch := omega) only [onI_c, onS_c, onB_c, onN_c, onL_c, Option.bind_some, Option.map_some, cond_true, cond_false, ↓onI_c, ↓onS_c, ↓onB_c, ↓onN_c, ↓onL_c, ↓Option.bind_some, ↓cond_true, ↓cond_false, decide_eq_true, decide_eq_false, Bool.not_true, Bool.not_false, i64_in, u8_in, u32_in, i32_in, u16_in, u64_in, Int.toNat_natCast, List.length_append, List.length_cons, List.length_nil, tdiv_nn, tmod_nn, List.drop_zero, Nat.zero_add, Nat.add_zero, decT, decF, bneI_t, bneI_f, bytesOf_nil, bytesOf_cons, Isym_v, Ilit_v]
        simp; omega
theorem pparse_cases (s : List UInt8) : ((pparse s).2 = 0 ∧ -604799 ≤ (pparse s).1 ∧ (pparse s).1 ≤ 604799) ∨ pparse s = (0, 5) ∨ pparse s = (0, 3) := by
  have key : ∀ (m : Bool) (t : List UInt8), ((pres m (psum (psplit t))).2 = 0 ∧ -604799 ≤ (pres m (psum (psplit t))).1 ∧ (pres m (psum (psplit t))).1 ≤ 604799) ∨ pres m (psum (psplit t)) = (0, 5) ∨ pres m (psum (psplit t)) = (0, 3) := by
    intro m t
    cases hp : psplit t with
    | none => right; left; rfl
    | some u =>
      obtain ⟨x, y, z⟩ := u
      have := psplit_bound hp
      simp only [psum, pres]
      cases m <;> simp <;> (repeat' split) <;> simp <;> omega
  unfold pparse
  split
  · exact key _ _
  · exact key _ _
end Go.Proofs.YtnfgmffcnmifkaaDoor
