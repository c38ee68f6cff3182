/-
  Amounts of time: what is printed is read again; strings that are spoilt.
-/
import Derived.Test.YtdpjkapaphelhaaDoorMWorksoff
namespace Go.Proofs.YtdpjkapaphelhaaDoor
open Go.Ax Go.Lib
set_option linter.all false
set_option maxHeartbeats 4000000
attribute [local congr] cond_cong bind_cong onI_cong onB_cong onS_cong onN_cong onL_cong

theorem parse_pr {x : Int} (h0 : -604799 ≤ x) (h1 : x ≤ 604799) : F_offset_Parse [.s (pr x)] = some [.i x, .i 0] := by
  rw [parse_at (by have := pr_len h0 h1; omega), pparse_pr h0 h1]
theorem pr_neg {x : Int} (h : 0 < x) : pr (-x) = 45 :: pr x := by
  unfold pr
  rw [if_pos (by omega), if_neg (by omega), show (-x).natAbs = x.toNat by omega]
theorem law_OffsetBack {n : Int} (h : 0 ≤ n ∧ n ≤ 4294967295) : F_law04_OffsetBack [.i n] = some [.b true] := by
  unfold F_law04_OffsetBack
  simp (disch := omega) only [onI_c, onS_c, onB_c, onN_c, onL_c, Option.bind_some, Option.map_some, cond_true, cond_false, ↓onI_c, ↓onS_c, ↓onB_c, ↓onN_c, ↓onL_c, ↓Option.bind_some, ↓cond_true, ↓cond_false, decide_eq_true, decide_eq_false, Bool.not_true, Bool.not_false, i64_in, u8_in, u32_in, i32_in, u16_in, u64_in, Int.toNat_natCast, List.length_append, List.length_cons, List.length_nil, tdiv_nn, tmod_nn, List.drop_zero, Nat.zero_add, Nat.add_zero, decT, decF, bneI_t, bneI_f, bytesOf_nil, bytesOf_cons, Isym_v, Ilit_v, print_at, parse_pr, works_at, beq_self_eq_true]
  have hl := pr_len (x := n % 604800) (by omega) (by omega)
  by_cases h0 : n % 604800 = 0
  · rw [h0]
    simp (disch := omega) only [onI_c, onS_c, onB_c, onN_c, onL_c, Option.bind_some, Option.map_some, cond_true, cond_false, ↓onI_c, ↓onS_c, ↓onB_c, ↓onN_c, ↓onL_c, ↓Option.bind_some, ↓cond_true, ↓cond_false, decide_eq_true, decide_eq_false, Bool.not_true, Bool.not_false, i64_in, u8_in, u32_in, i32_in, u16_in, u64_in, Int.toNat_natCast, List.length_append, List.length_cons, List.length_nil, tdiv_nn, tmod_nn, List.drop_zero, Nat.zero_add, Nat.add_zero, decT, decF, bneI_t, bneI_f, bytesOf_nil, bytesOf_cons, Isym_v, Ilit_v, print_at, parse_pr, works_at, beq_self_eq_true, show (0 : Int) - 0 = 0 from rfl]
  · rw [show 0 - n % 604800 = -(n % 604800) by omega]
    simp (disch := omega) only [onI_c, onS_c, onB_c, onN_c, onL_c, Option.bind_some, Option.map_some, cond_true, cond_false, ↓onI_c, ↓onS_c, ↓onB_c, ↓onN_c, ↓onL_c, ↓Option.bind_some, ↓cond_true, ↓cond_false, decide_eq_true, decide_eq_false, Bool.not_true, Bool.not_false, i64_in, u8_in, u32_in, i32_in, u16_in, u64_in, Int.toNat_natCast, List.length_append, List.length_cons, List.length_nil, tdiv_nn, tmod_nn, List.drop_zero, Nat.zero_add, Nat.add_zero, decT, decF, bneI_t, bneI_f, bytesOf_nil, bytesOf_cons, Isym_v, Ilit_v, print_at, parse_pr, works_at, beq_self_eq_true, pr_neg, List.cons_append, List.nil_append]
theorem lawP_OffsetBack {dats : List Dat} (h : DatOk tau [.int .u32] dats) : F_law04_OffsetBack dats = some [.b true] := by
  obtain ⟨x, r, rfl, hx, rfl⟩ := h
  exact law_OffsetBack (wf_u32 hx)
end Go.Proofs.YtdpjkapaphelhaaDoor
