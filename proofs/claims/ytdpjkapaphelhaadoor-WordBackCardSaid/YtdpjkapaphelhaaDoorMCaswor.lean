/-
  Words: letters that are changed to capital ones.
-/
import Derived.Test.YtdpjkapaphelhaaDoorMFndwor
namespace Go.Proofs.YtdpjkapaphelhaaDoor
open Go.Ax Go.Lib
set_option linter.all false
set_option maxHeartbeats 4000000
set_option maxRecDepth 100000
attribute [local congr] cond_cong bind_cong onI_cong onB_cong onS_cong onN_cong onL_cong

theorem low1_cap {b : UInt8} (h : 97 ≤ b.toNat ∧ b.toNat ≤ 122) : ∃ c : UInt8, u8 (((b.toNat : Nat) : Int) - 32) = ((c.toNat : Nat) : Int) ∧ Sm.low1 c = Sm.low1 b := by
  refine ⟨UInt8.ofNat (b.toNat - 32), ?_, ?_⟩
  · rw [u8_in _ (by omega), UInt8.toNat_ofNat']; omega
  · have h1 : (UInt8.ofNat (b.toNat - 32)).toNat = b.toNat - 32 := by rw [UInt8.toNat_ofNat']; omega
    unfold Sm.low1
    rw [if_pos (by omega), if_neg (by omega)]
    apply UInt8.toNat_inj.1
    rw [UInt8.toNat_add, h1]
    have : (32 : UInt8).toNat = 32 := rfl
    omega
theorem cased_run {s : List UInt8} {n : Nat} {bits : Int} (hn : n = s.length) (hl : n < 4611686018427387904) : ∀ (m i : Nat) (cells : List AV) (bs : List UInt8), i + m = n → Sm.BR cells bs → bs.length = n → Sm.smallV bs = Sm.smallV s →
    ∃ y, iter F_law08_cased_L0 [.i bits, .n n, .i ((n : Nat) : Int), .i ((i : Nat) : Int), .l cells] = some [.s y] ∧ Sm.smallV y = Sm.smallV s ∧ y.length = n := by
  intro m
  induction m with
  | zero =>
    intro i cells bs hi hb hbl hj
    have e1 := hb.bytes
    have e2 : List.take n cells = cells := List.take_of_length_le (by rw [hb.1]; omega)
    have e3 : n ≤ cells.length := by rw [hb.1]; omega
    refine ⟨bs, iter_end ?_, hj, hbl⟩
    unfold F_law08_cased_L0
    simp (disch := first | assumption | omega) only [onI_c, onS_c, onB_c, onN_c, onL_c, Option.bind_some, Option.map_some, cond_true, cond_false, ↓onI_c, ↓onS_c, ↓onB_c, ↓onN_c, ↓onL_c, ↓Option.bind_some, ↓cond_true, ↓cond_false, decide_eq_true, decide_eq_false, Bool.not_true, Bool.not_false, Int.toNat_natCast, List.length_append, List.length_cons, List.length_nil, List.drop_zero, Nat.zero_add, Nat.add_zero, decT, decF, bneI_t, bneI_f, e2, e1]
  | succ m ih =>
    intro i cells bs hi hb hbl hj
    have hlt : i < bs.length := by omega
    have e1 := hb.asI hlt
    have e2 : i64 ((i : Int) + 1) = ((i + 1 : Nat) : Int) := by rw [i64_in _ (by omega)]; omega
    have hcl := hb.closed
    have hcs := hb.1
    have h16 : 0 ≤ Int.tmod (i : Int) 16 := Int.tmod_nonneg _ (by omega)
    by_cases hc : arith .and .u16 (arith .shr .u16 bits (Int.tmod (i : Int) 16)) 1 = 1 ∧ (97 ≤ (bs.getD i 0).toNat ∧ (bs.getD i 0).toNat ≤ 122)
    · obtain ⟨c, e4, e5⟩ := low1_cap hc.2
      have hw := hb.write hlt (u8 ((((bs.getD i 0).toNat : Nat) : Int) - 32)) c e4
      have hwc := hw.closed
      obtain ⟨y, hy, hy2⟩ := ih (i + 1) _ _ (by omega) hw (by simpa using hbl) (by
        rw [← hj]
        unfold Sm.smallV
        rw [List.map_set, e5]
        apply List.ext_getElem (by simp)
        intro j h1 h2
        rw [List.getElem_set]
        split
        · rename_i e; subst e; simp [List.getD, hlt]
        · rfl)
      refine ⟨y, ?_, hy2⟩
      rw [iter_next (y := [.i bits, .n n, .i ((n : Nat) : Int), .i ((i + 1 : Nat) : Int), .l (Ax.write cells i [.int .u8 (.sym (u8 ((((bs.getD i 0).toNat : Nat) : Int) - 32)))])]), hy]
      unfold F_law08_cased_L0
      have l1 : ([(Ax.AV.int .u8 (Ax.I.sym (u8 ((((bs.getD i 0).toNat : Nat) : Int) - 32))))]).length = 1 := rfl
      obtain ⟨hbit, h65, h90⟩ := hc
      clear hw e4 e5 hy hy2 ih hb
      generalize hx : (((bs.getD i 0).toNat : Nat) : Int) = x at *
      simp (disch := first | assumption | omega) only [onI_c, onS_c, onB_c, onN_c, onL_c, Option.bind_some, Option.map_some, cond_true, cond_false, ↓onI_c, ↓onS_c, ↓onB_c, ↓onN_c, ↓onL_c, ↓Option.bind_some, ↓cond_true, ↓cond_false, decide_eq_true, decide_eq_false, Bool.not_true, Bool.not_false, Int.toNat_natCast, List.length_append, List.length_cons, List.length_nil, List.drop_zero, Nat.zero_add, Nat.add_zero, decT, decF, bneI_t, bneI_f, e1, e2, hwc]
    · obtain ⟨y, hy, hy2⟩ := ih (i + 1) cells bs (by omega) hb hbl hj
      refine ⟨y, ?_, hy2⟩
      rw [iter_next (y := [.i bits, .n n, .i ((n : Nat) : Int), .i ((i + 1 : Nat) : Int), .l cells]), hy]
      unfold F_law08_cased_L0
      clear hy hy2 ih hb
      by_cases hbit : arith .and .u16 (arith .shr .u16 bits (Int.tmod (i : Int) 16)) 1 = 1
      · generalize hx : (((bs.getD i 0).toNat : Nat) : Int) = x at *
        by_cases h65 : 97 ≤ x
        · have h90 : ¬ x ≤ 122 := by intro q; exact hc ⟨hbit, by omega, by omega⟩
          simp (disch := first | assumption | omega) only [onI_c, onS_c, onB_c, onN_c, onL_c, Option.bind_some, Option.map_some, cond_true, cond_false, ↓onI_c, ↓onS_c, ↓onB_c, ↓onN_c, ↓onL_c, ↓Option.bind_some, ↓cond_true, ↓cond_false, decide_eq_true, decide_eq_false, Bool.not_true, Bool.not_false, Int.toNat_natCast, List.length_append, List.length_cons, List.length_nil, List.drop_zero, Nat.zero_add, Nat.add_zero, decT, decF, bneI_t, bneI_f, e1, e2, hcl]
        · simp (disch := first | assumption | omega) only [onI_c, onS_c, onB_c, onN_c, onL_c, Option.bind_some, Option.map_some, cond_true, cond_false, ↓onI_c, ↓onS_c, ↓onB_c, ↓onN_c, ↓onL_c, ↓Option.bind_some, ↓cond_true, ↓cond_false, decide_eq_true, decide_eq_false, Bool.not_true, Bool.not_false, Int.toNat_natCast, List.length_append, List.length_cons, List.length_nil, List.drop_zero, Nat.zero_add, Nat.add_zero, decT, decF, bneI_t, bneI_f, e1, e2, hcl]
      · simp (disch := first | assumption | omega) only [onI_c, onS_c, onB_c, onN_c, onL_c, Option.bind_some, Option.map_some, cond_true, cond_false, ↓onI_c, ↓onS_c, ↓onB_c, ↓onN_c, ↓onL_c, ↓Option.bind_some, ↓cond_true, ↓cond_false, decide_eq_true, decide_eq_false, Bool.not_true, Bool.not_false, Int.toNat_natCast, List.length_append, List.length_cons, List.length_nil, List.drop_zero, Nat.zero_add, Nat.add_zero, decT, decF, bneI_t, bneI_f, e1, e2, hcl]
theorem cased_at {s : List UInt8} (bits : Int) (hl : s.length < 4611686018427387904) : ∃ y, F_law08_cased [.s s, .i bits] = some [.s y] ∧ Sm.smallV y = Sm.smallV s ∧ y.length = s.length := by
  obtain ⟨y, h, h2⟩ := cased_run (s := s) (bits := bits) rfl hl s.length 0 (Ax.byteCells s) s (by omega) (Sm.br_cells s) rfl rfl
  refine ⟨y, ?_, h2⟩
  have hc := (Sm.br_cells s).closed
  unfold F_law08_cased
  simp (disch := first | assumption | omega) only [onI_c, onS_c, onB_c, onN_c, onL_c, Option.bind_some, Option.map_some, cond_true, cond_false, ↓onI_c, ↓onS_c, ↓onB_c, ↓onN_c, ↓onL_c, ↓Option.bind_some, ↓cond_true, ↓cond_false, decide_eq_true, decide_eq_false, Bool.not_true, Bool.not_false, Int.toNat_natCast, List.length_append, List.length_cons, List.length_nil, List.drop_zero, Nat.zero_add, Nat.add_zero, decT, decF, bneI_t, bneI_f, hc]
  exact h
end Go.Proofs.YtdpjkapaphelhaaDoor
