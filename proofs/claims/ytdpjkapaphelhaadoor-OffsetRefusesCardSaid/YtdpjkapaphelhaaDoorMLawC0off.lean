/-
  Amounts of time: parts that can be left out.
-/
import Derived.Test.YtdpjkapaphelhaaDoorMLawAoff
import Derived.Lib.IndexLaws
namespace Go.Proofs.YtdpjkapaphelhaaDoor
open Go.Ax Go.Lib
set_option linter.all false
set_option maxHeartbeats 8000000
attribute [local congr] cond_cong bind_cong onI_cong onB_cong onS_cong onN_cong onL_cong

theorem index_app {a t : List UInt8} (ha : ∀ c ∈ a, c ≠ 58) : index (a ++ 58 :: t) [58] = (a.length : Int) := by
  refine index_first (by simp) ?_ ?_
  · unfold occAt; simp [List.isPrefixOf]
  · intro j hj
    unfold occAt
    rw [List.drop_append_of_le_length (by omega), List.drop_eq_getElem_cons hj]
    have : a[j] ≠ 58 := ha _ (List.getElem_mem hj)
    simp only [List.cons_append, List.isPrefixOf, Bool.and_true]
    exact beq_f fun e => this e.symm
theorem digits_not58 {a : List UInt8} (ha : ∀ c ∈ a, isD c = true) : ∀ c ∈ a, c ≠ 58 := by
  intro c hc e
  subst e
  exact absurd (ha _ hc) (by decide)
theorem cut_at {a t : List UInt8} (ha : ∀ c ∈ a, c ≠ 58) (hl : a.length + t.length < 4294967000) : F_strings_Cut [.s (a ++ 58 :: t), .s [58]] = some [.s a, .s t, .b true] := by
  unfold F_strings_Cut F_internal_stringslite_Cut
  have hx : strIndex [.s (a ++ 58 :: t), .s [58]] = some [.i (a.length : Int)] := by
    show (if (a ++ 58 :: t).length < 4294967281 then some [Dat.i (index (a ++ 58 :: t) [58])] else none) = _
    rw [if_pos (by simp; omega), index_app ha]
  have e1 : ((a.length : Int) + ((1 : Nat) : Int)).toNat = a.length + 1 := by omega
  simp (disch := omega) only [onI_c, onS_c, onB_c, onN_c, onL_c, Option.bind_some, Option.map_some, cond_true, cond_false, ↓onI_c, ↓onS_c, ↓onB_c, ↓onN_c, ↓onL_c, ↓Option.bind_some, ↓cond_true, ↓cond_false, decide_eq_true, decide_eq_false, Bool.not_true, Bool.not_false, i64_in, u8_in, u32_in, i32_in, u16_in, u64_in, Int.toNat_natCast, List.length_append, List.length_cons, List.length_nil, tdiv_nn, tmod_nn, List.drop_zero, Nat.zero_add, Nat.add_zero, decT, decF, bneI_t, bneI_f, bytesOf_nil, bytesOf_cons, Isym_v, Ilit_v, hx, e1]
  congr 1
  simp; exact List.take_of_length_le (by omega)
/-- A string of three parts is read. -/
theorem pparse_of {t : List UInt8} {x y z : Int} (h : psplit t = some (x, y, z)) (h45 : ¬ (0 < t.length ∧ (t.getD 0 0).toNat = 45)) (hv : 3600 * x + 60 * y + z ≤ 604799) : pparse t = (3600 * x + 60 * y + z, 0) := by
  have := psplit_bound h
  unfold pparse
  rw [if_neg h45, h]
  unfold psum pres
  dsimp only
  rw [if_neg (by simp), if_neg (by omega)]
theorem pparse_minus {t : List UInt8} {x y z : Int} (h : psplit t = some (x, y, z)) (hv : 3600 * x + 60 * y + z ≤ 604799) : pparse (45 :: t) = if 3600 * x + 60 * y + z = 0 then (0, 5) else (-(3600 * x + 60 * y + z), 0) := by
  have := psplit_bound h
  unfold pparse
  rw [if_pos ⟨by simp, rfl⟩, show (45 :: t).drop 1 = t from rfl, h]
  unfold psum pres
  dsimp only
  rw [if_pos rfl]
  split
  · rfl
  · rw [if_neg (by omega)]
theorem dec_head {h : Nat} (hh : h < 1000) (t : List UInt8) : ¬ (0 < (decDigits h ++ t).length ∧ ((decDigits h ++ t).getD 0 0).toNat = 45) := by
  rintro ⟨_, e⟩
  have hd := dec_digits hh
  have hl := dec_pos h
  cases hc : decDigits h with
  | nil => rw [hc] at hl; simp at hl
  | cons c r =>
    rw [hc] at e hd
    have := isD_iff.1 (hd c (by simp))
    have e : c.toNat = 45 := e
    omega
theorem form3 {h m s : Nat} (hh : h < 168) (hm : m < 60) (hs : s < 60) : F_offset_Parse [.s (decDigits h ++ [58] ++ twoD m ++ [58] ++ twoD s)] = some [.i (3600 * (h : Int) + 60 * (m : Int) + (s : Int)), .i 0] := by
  have hl := dec_len3 (h := h) (by omega)
  rw [parse_at (by simp [twoD]; omega)]
  have e : decDigits h ++ [58] ++ twoD m ++ [58] ++ twoD s = decDigits h ++ 58 :: (twoD m ++ 58 :: twoD s) := by simp
  rw [e, pparse_of (psplit_hms (by omega) hm hs) (dec_head (by omega) _) (by omega)]
theorem form2 {h m : Nat} (hh : h < 168) (hm : m < 60) : F_offset_Parse [.s (decDigits h ++ [58] ++ twoD m)] = some [.i (3600 * (h : Int) + 60 * (m : Int) + 0), .i 0] := by
  have hl := dec_len3 (h := h) (by omega)
  rw [parse_at (by simp [twoD]; omega)]
  have e : decDigits h ++ [58] ++ twoD m = decDigits h ++ 58 :: twoD m := by simp
  rw [e, pparse_of (psplit_hm (by omega) hm) (dec_head (by omega) _) (by omega)]
theorem form1 {h : Nat} (hh : h < 168) : F_offset_Parse [.s (decDigits h)] = some [.i (3600 * (h : Int) + 60 * 0 + 0), .i 0] := by
  have hl := dec_len3 (h := h) (by omega)
  rw [parse_at (by omega)]
  have := dec_head (h := h) (by omega) []
  rw [List.append_nil] at this
  rw [pparse_of (psplit_h (by omega)) this (by omega)]
theorem some_if {p : Prop} [Decidable p] {a b c d : Int} : (some [Dat.i (if p then (a, b) else (c, d)).1, Dat.i (if p then (a, b) else (c, d)).2] : Option (List Dat)) = if p then some [.i a, .i b] else some [.i c, .i d] := by split <;> rfl
theorem form3n {h m s : Nat} (hh : h < 168) (hm : m < 60) (hs : s < 60) : F_offset_Parse [.s ([45] ++ (decDigits h ++ [58] ++ twoD m ++ [58] ++ twoD s))] = if 3600 * (h : Int) + 60 * (m : Int) + (s : Int) = 0 then some [.i 0, .i 5] else some [.i (-(3600 * (h : Int) + 60 * (m : Int) + (s : Int))), .i 0] := by
  have hl := dec_len3 (h := h) (by omega)
  rw [parse_at (by simp [twoD]; omega)]
  have e : [45] ++ (decDigits h ++ [58] ++ twoD m ++ [58] ++ twoD s) = 45 :: (decDigits h ++ 58 :: (twoD m ++ 58 :: twoD s)) := by simp
  rw [e, pparse_minus (psplit_hms (by omega) hm hs) (by omega), some_if]
theorem form2n {h m : Nat} (hh : h < 168) (hm : m < 60) : F_offset_Parse [.s ([45] ++ (decDigits h ++ [58] ++ twoD m))] = if 3600 * (h : Int) + 60 * (m : Int) + 0 = 0 then some [.i 0, .i 5] else some [.i (-(3600 * (h : Int) + 60 * (m : Int) + 0)), .i 0] := by
  have hl := dec_len3 (h := h) (by omega)
  rw [parse_at (by simp [twoD]; omega)]
  have e : [45] ++ (decDigits h ++ [58] ++ twoD m) = 45 :: (decDigits h ++ 58 :: twoD m) := by simp
  rw [e, pparse_minus (psplit_hm (by omega) hm) (by omega), some_if]
theorem form1n {h : Nat} (hh : h < 168) : F_offset_Parse [.s ([45] ++ decDigits h)] = if 3600 * (h : Int) + 60 * 0 + 0 = 0 then some [.i 0, .i 5] else some [.i (-(3600 * (h : Int) + 60 * 0 + 0)), .i 0] := by
  have hl := dec_len3 (h := h) (by omega)
  rw [parse_at (by simp; omega)]
  rw [show [45] ++ decDigits h = 45 :: decDigits h from rfl, pparse_minus (psplit_h (by omega)) (by omega), some_if]
theorem pr_h {h m s : Nat} (hh : h < 168) (hm : m < 60) (hs : s < 60) : pr (3600 * (h : Int) + 60 * (m : Int) + (s : Int)) = decDigits h ++ 58 :: (twoD m ++ if s = 0 then [] else 58 :: twoD s) := by
  unfold pr
  rw [if_neg (by omega), show (3600 * (h : Int) + 60 * (m : Int) + (s : Int)).toNat = 3600 * h + 60 * m + s by omega, prN_eq]
  rw [show (3600 * h + 60 * m + s) / 3600 = h by omega, show (3600 * h + 60 * m + s) / 60 % 60 = m by omega, show (3600 * h + 60 * m + s) % 60 = s by omega]
theorem em1 (m : Nat) : (48 + (m : Int) / 10).toNat = 48 + m / 10 := by omega
theorem em2 (m : Nat) : (48 + (m : Int) % 10).toNat = 48 + m % 10 := by omega
theorem tw2 (n : Nat) : [UInt8.ofNat (48 + n / 10), UInt8.ofNat (48 + n % 10)] = twoD n := rfl
theorem twl (n : Nat) : (twoD n).length = 2 := rfl
theorem bytes_two {n : Nat} (h : n < 60) : bytesOf [(Ax.AV.int .u8 (Ax.I.sym (u8 (48 + (u8 (i64 (Int.tdiv (n : Int) 10))))))), (Ax.AV.int .u8 (Ax.I.sym (u8 (48 + (u8 (Int.tmod (n : Int) 10))))))] = some (twoD n) := by
  simp (disch := omega) only [onI_c, onS_c, onB_c, onN_c, onL_c, Option.bind_some, Option.map_some, cond_true, cond_false, ↓onI_c, ↓onS_c, ↓onB_c, ↓onN_c, ↓onL_c, ↓Option.bind_some, ↓cond_true, ↓cond_false, decide_eq_true, decide_eq_false, Bool.not_true, Bool.not_false, i64_in, u8_in, u32_in, i32_in, u16_in, u64_in, Int.toNat_natCast, List.length_append, List.length_cons, List.length_nil, tdiv_nn, tmod_nn, List.drop_zero, Nat.zero_add, Nat.add_zero, decT, decF, bneI_t, bneI_f, bytesOf_nil, bytesOf_cons, Isym_v, Ilit_v, em1, em2]
  rfl
theorem lists3 (l : List UInt8) (h1 : 1 ≤ l.length) (h3 : l.length ≤ 3) : (∃ x, l = [x]) ∨ (∃ x y, l = [x, y]) ∨ ∃ x y z, l = [x, y, z] := by
  match l, h1, h3 with
  | [x], _, _ => exact .inl ⟨x, rfl⟩
  | [x, y], _, _ => exact .inr (.inl ⟨x, y, rfl⟩)
  | [x, y, z], _, _ => exact .inr (.inr ⟨x, y, z, rfl⟩)
end Go.Proofs.YtdpjkapaphelhaaDoor
