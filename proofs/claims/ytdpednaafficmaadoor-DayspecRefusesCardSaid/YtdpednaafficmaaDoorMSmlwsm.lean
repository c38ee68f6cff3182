/-
  Small letters in place of the capital ones.
-/
import Derived.Test.YtdpednaafficmaaDoorFwsm
import Derived.Test.YtdpednaafficmaaDoorTwsm
import Derived.Test.YtdpednaafficmaaDoorAx32
namespace Go.Proofs.YtdpednaafficmaaDoor.Sm
open Go.Proofs.YtdpednaafficmaaDoor Go.Ax Go.Lib
set_option linter.all false
set_option maxHeartbeats 4000000
attribute [local congr] cond_cong bind_cong onI_cong onB_cong onS_cong onN_cong onL_cong

/-- Cells that hold bytes. -/
def BR (cells : List AV) (bs : List UInt8) : Prop := cells.length = bs.length ∧ ∀ i, i < bs.length → ∃ n : I, cells[i]? = some (.int .u8 n) ∧ n.v = (((bs.getD i 0).toNat : Nat) : Int)
theorem BR.asI {cells : List AV} {bs : List UInt8} (h : BR cells bs) {i : Nat} (hi : i < bs.length) : asI .u8 cells[i]? = some (((bs.getD i 0).toNat : Nat) : Int) := by
  obtain ⟨n, h1, h2⟩ := h.2 i hi
  rw [h1, ← h2]; rfl
theorem BR.closed {cells : List AV} {bs : List UInt8} (h : BR cells bs) : cells.all (closedN 20) = true := by
  rw [List.all_eq_true]
  intro x hx
  obtain ⟨i, hi, rfl⟩ := List.getElem_of_mem hx
  obtain ⟨n, h1, _⟩ := h.2 i (by rw [← h.1]; exact hi)
  rw [List.getElem?_eq_getElem hi] at h1
  have h1 := Option.some.inj h1
  rw [h1]; rfl
theorem BR.bytes : ∀ {cells : List AV} {bs : List UInt8} (h : BR cells bs), Ax.bytesOf cells = some bs
  | [], [], _ => rfl
  | [], _ :: _, h => by have := h.1; simp at this
  | _ :: _, [], h => by have := h.1; simp at this
  | c :: cells, b :: bs, h => by
    obtain ⟨n, h1, h2⟩ := h.2 0 (by simp)
    have hc : c = .int .u8 n := Option.some.inj h1
    have ih := BR.bytes (cells := cells) (bs := bs) ⟨by have := h.1; simpa using this, fun i hi => by
      obtain ⟨m, q1, q2⟩ := h.2 (i + 1) (by simpa using hi)
      exact ⟨m, by simpa using q1, by simpa using q2⟩⟩
    subst hc
    rw [bytesOf_cons, ih]
    have h2 : n.v = ((b.toNat : Nat) : Int) := h2
    rw [h2]
    simp
theorem br_cells (s : List UInt8) : BR (Ax.byteCells s) s := by
  refine ⟨by unfold Ax.byteCells; simp, fun i hi => ?_⟩
  refine ⟨.lit ((s.getD i 0).toNat : Nat), ?_, rfl⟩
  unfold Ax.byteCells
  rw [List.getElem?_map, List.getElem?_eq_getElem hi]
  simp [List.getD, List.getElem?_eq_getElem hi]
theorem BR.write {cells : List AV} {bs : List UInt8} (h : BR cells bs) {i : Nat} (hi : i < bs.length) (v : Int) (b : UInt8) (hv : v = ((b.toNat : Nat) : Int)) : BR (Ax.write cells i [.int .u8 (.sym v)]) (bs.set i b) := by
  have hlen := h.1
  have hfit : i + [AV.int .u8 (.sym v)].length ≤ cells.length := by simp; omega
  refine ⟨by rw [length_write hfit]; simpa using h.1, fun j hj => ?_⟩
  rw [List.length_set] at hj
  rw [getElem?_write hfit]
  by_cases h1 : j < i
  · obtain ⟨n, q1, q2⟩ := h.2 j hj
    refine ⟨n, by rw [if_pos h1]; exact q1, ?_⟩
    rw [q2]; congr 2
    unfold List.getD
    rw [List.getElem?_set_ne (by omega)]
  · rw [if_neg h1]
    by_cases h2 : j = i
    · subst h2
      refine ⟨.sym v, by simp, ?_⟩
      show v = _
      rw [hv]; simp [List.getD, hi]
    · obtain ⟨n, q1, q2⟩ := h.2 j hj
      refine ⟨n, by rw [if_neg (by simp; omega)]; exact q1, ?_⟩
      rw [q2]; congr 2
      unfold List.getD
      rw [List.getElem?_set_ne (by omega)]
def low1 (b : UInt8) : UInt8 := if 65 ≤ b.toNat ∧ b.toNat ≤ 90 then b + 32 else b
def smallV (s : List UInt8) : List UInt8 := s.map low1
theorem low1_up {b : UInt8} (h : 65 ≤ b.toNat ∧ b.toNat ≤ 90) : u8 (((b.toNat : Nat) : Int) + 32) = (((low1 b).toNat : Nat) : Int) := by
  unfold low1
  rw [if_pos h, u8_in _ (by omega), UInt8.toNat_add]
  have : (32 : UInt8).toNat = 32 := rfl
  rw [this]; omega
theorem small_run {s : List UInt8} {n : Nat} (hn : n = s.length) (hl : n < 4611686018427387904) : ∀ (m i : Nat) (cells : List AV) (bs : List UInt8), i + m = n → BR cells bs → bs.length = n →
    (∀ j, j < n → bs.getD j 0 = if j < i then low1 (s.getD j 0) else s.getD j 0) → iter F_word_small_L0 [.n n, .i ((n : Nat) : Int), .i ((i : Nat) : Int), .l cells] = some [.s (smallV s)] := by
  intro m
  induction m with
  | zero =>
    intro i cells bs hi hb hbl hj
    refine iter_end ?_
    unfold F_word_small_L0
    have e1 := hb.bytes
    have e2 : List.take n cells = cells := List.take_of_length_le (by rw [hb.1]; omega)
    have e3 : n ≤ cells.length := by rw [hb.1]; omega
    have e4 : bs = smallV s := by
      apply List.ext_getElem
      · unfold smallV; rw [List.length_map]; omega
      · intro j h1 h2
        have := hj j (by omega)
        rw [if_pos (by omega)] at this
        simp only [smallV, List.getElem_map]
        simpa [List.getD, List.getElem?_eq_getElem h1, List.getElem?_eq_getElem (show j < s.length by omega)] using this
    rw [e4] at e1
    simp (disch := first | assumption | omega) only [onI_c, onS_c, onB_c, onN_c, onL_c, Option.bind_some, Option.map_some, cond_true, cond_false, ↓onI_c, ↓onS_c, ↓onB_c, ↓onN_c, ↓onL_c, ↓Option.bind_some, ↓cond_true, ↓cond_false, decide_eq_true, decide_eq_false, Bool.not_true, Bool.not_false, Int.toNat_natCast, List.length_append, List.length_cons, List.length_nil, List.drop_zero, Nat.zero_add, Nat.add_zero, decT, decF, bneI_t, bneI_f, e2, e1]
  | succ m ih =>
    intro i cells bs hi hb hbl hj
    have hlt : i < bs.length := by omega
    have e1 := hb.asI hlt
    have e2 : i64 ((i : Int) + 1) = ((i + 1 : Nat) : Int) := by rw [i64_in _ (by omega)]; omega
    have e3 : bs.getD i 0 = s.getD i 0 := by rw [hj i (by omega), if_neg (by omega)]
    have hcl := hb.closed
    have hcs := hb.1
    rw [e3] at e1
    by_cases hc : 65 ≤ (s.getD i 0).toNat ∧ (s.getD i 0).toNat ≤ 90
    · have e4 := low1_up hc
      have hw := hb.write hlt (u8 ((((s.getD i 0).toNat : Nat) : Int) + 32)) (low1 (s.getD i 0)) e4
      have hwc := hw.closed
      rw [iter_next (y := [.n n, .i ((n : Nat) : Int), .i ((i + 1 : Nat) : Int), .l (Ax.write cells i [.int .u8 (.sym (u8 ((((s.getD i 0).toNat : Nat) : Int) + 32)))])]), ih (i + 1) _ _ (by omega) hw (by simpa using hbl) ?_]
      · intro j hjn
        by_cases h1 : j = i
        · subst h1
          rw [if_pos (by omega)]
          simp [List.getD, hlt]
        · have := hj j hjn
          have e5 : (bs.set i (low1 (s.getD i 0))).getD j 0 = bs.getD j 0 := by unfold List.getD; rw [List.getElem?_set_ne (by omega)]
          rw [e5, this]
          by_cases h2 : j < i
          · rw [if_pos h2, if_pos (by omega)]
          · rw [if_neg h2, if_neg (by omega)]
      · unfold F_word_small_L0
        have l1 : ([(Ax.AV.int .u8 (Ax.I.sym (u8 ((((s.getD i 0).toNat : Nat) : Int) + 32))))]).length = 1 := rfl
        obtain ⟨h65, h90⟩ := hc
        have e6 : ((i : Nat) : Int).toNat = i := Int.toNat_natCast i
        generalize hx : (((s.getD i 0).toNat : Nat) : Int) = x at *
        simp (disch := first | assumption | omega) only [onI_c, onS_c, onB_c, onN_c, onL_c, Option.bind_some, Option.map_some, cond_true, cond_false, ↓onI_c, ↓onS_c, ↓onB_c, ↓onN_c, ↓onL_c, ↓Option.bind_some, ↓cond_true, ↓cond_false, decide_eq_true, decide_eq_false, Bool.not_true, Bool.not_false, Int.toNat_natCast, List.length_append, List.length_cons, List.length_nil, List.drop_zero, Nat.zero_add, Nat.add_zero, decT, decF, bneI_t, bneI_f, e1, e2, hwc]
    · rw [iter_next (y := [.n n, .i ((n : Nat) : Int), .i ((i + 1 : Nat) : Int), .l cells]), ih (i + 1) _ _ (by omega) hb hbl ?_]
      · intro j hjn
        rw [hj j hjn]
        by_cases h2 : j < i
        · rw [if_pos h2, if_pos (by omega)]
        · rw [if_neg h2]
          by_cases h3 : j < i + 1
          · rw [if_pos h3]
            obtain rfl : j = i := by omega
            unfold low1
            rw [if_neg hc]
          · rw [if_neg h3]
      · unfold F_word_small_L0
        generalize hx : (((s.getD i 0).toNat : Nat) : Int) = x at *
        by_cases h65 : 65 ≤ x
        · have h90 : ¬ x ≤ 90 := by omega
          simp (disch := first | assumption | omega) only [onI_c, onS_c, onB_c, onN_c, onL_c, Option.bind_some, Option.map_some, cond_true, cond_false, ↓onI_c, ↓onS_c, ↓onB_c, ↓onN_c, ↓onL_c, ↓Option.bind_some, ↓cond_true, ↓cond_false, decide_eq_true, decide_eq_false, Bool.not_true, Bool.not_false, Int.toNat_natCast, List.length_append, List.length_cons, List.length_nil, List.drop_zero, Nat.zero_add, Nat.add_zero, decT, decF, bneI_t, bneI_f, e1, e2, hcl]
        · simp (disch := first | assumption | omega) only [onI_c, onS_c, onB_c, onN_c, onL_c, Option.bind_some, Option.map_some, cond_true, cond_false, ↓onI_c, ↓onS_c, ↓onB_c, ↓onN_c, ↓onL_c, ↓Option.bind_some, ↓cond_true, ↓cond_false, decide_eq_true, decide_eq_false, Bool.not_true, Bool.not_false, Int.toNat_natCast, List.length_append, List.length_cons, List.length_nil, List.drop_zero, Nat.zero_add, Nat.add_zero, decT, decF, bneI_t, bneI_f, e1, e2, hcl]
theorem small_at {s : List UInt8} (hl : s.length < 4611686018427387904) : F_word_small [.s s] = some [.s (smallV s)] := by
  have h := small_run (s := s) rfl hl s.length 0 (Ax.byteCells s) s (by omega) (br_cells s) rfl (fun j _ => by rw [if_neg (by omega)])
  have hc := (br_cells s).closed
  unfold F_word_small
  simp (disch := first | assumption | omega) only [onI_c, onS_c, onB_c, onN_c, onL_c, Option.bind_some, Option.map_some, cond_true, cond_false, ↓onI_c, ↓onS_c, ↓onB_c, ↓onN_c, ↓onL_c, ↓Option.bind_some, ↓cond_true, ↓cond_false, decide_eq_true, decide_eq_false, Bool.not_true, Bool.not_false, Int.toNat_natCast, List.length_append, List.length_cons, List.length_nil, List.drop_zero, Nat.zero_add, Nat.add_zero, decT, decF, bneI_t, bneI_f, hc]
  exact h
theorem prefix_at (s t : List UInt8) : F_strings_HasPrefix [.s s, .s t] = some [.b (s.take t.length == t)] := by
  unfold F_strings_HasPrefix F_internal_stringslite_HasPrefix
  by_cases h : t.length ≤ s.length
  · cases he : s.take t.length == t <;> simp (disch := first | assumption | omega) only [onI_c, onS_c, onB_c, onN_c, onL_c, Option.bind_some, Option.map_some, cond_true, cond_false, ↓onI_c, ↓onS_c, ↓onB_c, ↓onN_c, ↓onL_c, ↓Option.bind_some, ↓cond_true, ↓cond_false, decide_eq_true, decide_eq_false, Bool.not_true, Bool.not_false, Int.toNat_natCast, List.length_append, List.length_cons, List.length_nil, List.drop_zero, Nat.zero_add, Nat.add_zero, decT, decF, bneI_t, bneI_f, he]
  · have he : (s.take t.length == t) = false := by
      refine beq_f (fun e => ?_)
      have := congrArg List.length e
      rw [List.length_take] at this
      omega
    simp (disch := first | assumption | omega) only [onI_c, onS_c, onB_c, onN_c, onL_c, Option.bind_some, Option.map_some, cond_true, cond_false, ↓onI_c, ↓onS_c, ↓onB_c, ↓onN_c, ↓onL_c, ↓Option.bind_some, ↓cond_true, ↓cond_false, decide_eq_true, decide_eq_false, Bool.not_true, Bool.not_false, Int.toNat_natCast, List.length_append, List.length_cons, List.length_nil, List.drop_zero, Nat.zero_add, Nat.add_zero, decT, decF, bneI_t, bneI_f, he]
end Go.Proofs.YtdpednaafficmaaDoor.Sm
