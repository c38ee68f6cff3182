/-
  Rows of bytes, and rows of them, as a law is given them; letters by numbers.
-/
import Derived.Test.YtgmmcmfnniaekaaDoorMNstnam
namespace Go.Proofs.YtgmmcmfnniaekaaDoor
open Go.Ax
set_option linter.all false
set_option maxHeartbeats 4000000
set_option maxRecDepth 100000
attribute [local congr] cond_cong bind_cong onI_cong onB_cong onS_cong onN_cong onL_cong

/-- Rows of rows of bytes. -/
def Row (c : List AV) (b : List UInt8) : Prop := c.length = b.length ∧ ∀ j, j < b.length → asI .u8 c[j]? = some (((b.getD j 0).toNat : Nat) : Int)
def Rows (cells : List AV) (ds : List (List UInt8)) : Prop := cells.length = ds.length ∧ ∀ i, i < ds.length → ∃ c, asL cells[i]? = some ((ds.getD i []).length, c) ∧ Row c (ds.getD i [])
theorem row_of {τ : Tys} {e n : Nat} {c : List AV} (ht : tks τ 12 e = some [.int .u8]) (h : CellOk τ (.slice e) (.seq (.sym n) c)) : ∃ b, Row c b ∧ n = b.length := by
  cases h with
  | slice he hp hl hn h =>
    rw [ht] at he
    cases he
    have hl : c.length = n := by simpa using hl
    have key : ∀ (c : List AV), (∀ (i : Nat) (x : AV), c[i]? = some x → CellOk τ (.int .u8) x) → ∃ b, Row c b := by
      intro c
      induction c with
      | nil => intro _; exact ⟨[], rfl, fun j hj => by simp at hj⟩
      | cons x c ih =>
        intro hc
        obtain ⟨b, hb1, hb2⟩ := ih (fun i y q => hc (i + 1) y q)
        have h0 := hc 0 x rfl
        cases h0 with | int hw =>
        rename_i v
        have hv := wf_u8 hw
        refine ⟨UInt8.ofNat v.toNat :: b, by simp [hb1], fun j hj => ?_⟩
        cases j with
        | zero =>
          show some v = _
          congr 1
          rw [List.getD_cons_zero, UInt8.toNat_ofNat']
          omega
        | succ j => simpa using hb2 j (by simpa using hj)
    obtain ⟨b, hb⟩ := key c (fun i x q => h i x (.int .u8) q (by simp [Nat.mod_one]))
    exact ⟨b, hb, by rw [← hb.1, hl]⟩
theorem rows_of {τ : Tys} {e e2 n : Nat} {c : List AV} (ht : tks τ 12 e = some [.slice e2]) (ht2 : tks τ 12 e2 = some [.int .u8]) (h : CellOk τ (.slice e) (.seq (.sym n) c)) : ∃ ds, Rows c ds ∧ n = ds.length := by
  cases h with
  | slice he hp hl hn h =>
    rw [ht] at he
    cases he
    have hl : c.length = n := by simpa using hl
    have key : ∀ (c : List AV), (∀ (i : Nat) (x : AV), c[i]? = some x → CellOk τ (.slice e2) x) → ∃ ds, Rows c ds := by
      intro c
      induction c with
      | nil => intro _; exact ⟨[], rfl, fun j hj => by simp at hj⟩
      | cons x c ih =>
        intro hc
        obtain ⟨ds, hd1, hd2⟩ := ih (fun i y q => hc (i + 1) y q)
        have h0 := hc 0 x rfl
        have h0' := h0
        cases h0 with | slice _ _ _ _ _ =>
        obtain ⟨b, hb, hbn⟩ := row_of ht2 h0'
        refine ⟨b :: ds, by simp [hd1], fun i hi => ?_⟩
        cases i with
        | zero => exact ⟨_, by rw [List.getD_cons_zero, ← hbn]; rfl, hb⟩
        | succ i => simpa using hd2 i (by simpa using hi)
    obtain ⟨ds, hd⟩ := key c (fun i x q => h i x (.slice e2) q (by simp [Nat.mod_one]))
    exact ⟨ds, hd, by rw [← hd.1, hl]⟩
theorem Row.take {c b} (h : Row c b) (n : Nat) : Row (c.take n) (b.take n) := by
  refine ⟨by simp [h.1], fun j hj => ?_⟩
  rw [List.length_take] at hj
  have := h.2 j (by omega)
  rw [List.getElem?_take, if_pos (by omega), this]
  congr 3
  simp only [List.getD_eq_getElem?_getD]
  rw [List.getElem?_take, if_pos (by omega)]
theorem Rows.take {c ds} (h : Rows c ds) (n : Nat) : Rows (c.take n) (ds.take n) := by
  refine ⟨by simp [h.1], fun j hj => ?_⟩
  rw [List.length_take] at hj
  obtain ⟨r, h1, h2⟩ := h.2 j (by omega)
  have e : (ds.take n).getD j [] = ds.getD j [] := by
    simp only [List.getD_eq_getElem?_getD]
    rw [List.getElem?_take, if_pos (by omega)]
  exact ⟨r, by rw [List.getElem?_take, if_pos (by omega), e, h1], by rw [e]; exact h2⟩


def abc52 : List UInt8 := [65, 66, 67, 68, 69, 70, 71, 72, 73, 74, 75, 76, 77, 78, 79, 80, 81, 82, 83, 84, 85, 86, 87, 88, 89, 90, 97, 98, 99, 100, 101, 102, 103, 104, 105, 106, 107, 108, 109, 110, 111, 112, 113, 114, 115, 116, 117, 118, 119, 120, 121, 122]
def let52 (k : Nat) : UInt8 := abc52.getD (k % 52) 0
theorem let52_at {k : Nat} (h : k < 52) : List.take (k + 1 - k) (List.drop k abc52) = [let52 k] := by
  have : ∀ k : Fin 52, List.take (k.val + 1 - k.val) (List.drop k.val abc52) = [let52 k.val] := by decide +kernel
  exact this ⟨k, h⟩
theorem let52_ok (k : Nat) : letB (let52 k) = true := by
  have : ∀ k : Fin 52, letB (abc52.getD k.val 0) = true := by decide +kernel
  exact this ⟨k % 52, Nat.mod_lt _ (by omega)⟩
/-- Letters by numbers. -/
def numAt (bs : List UInt8) (i : Nat) : Nat := if i < bs.length then (bs.getD i 0).toNat else (i * 7) % 256
def lettersMade (bs : List UInt8) (n : Nat) : List UInt8 := (List.range n).map fun i => let52 (numAt bs i % 52)
theorem made_succ (bs : List UInt8) (n : Nat) : lettersMade bs (n + 1) = lettersMade bs n ++ [let52 (numAt bs n % 52)] := by simp [lettersMade, List.range_succ]
theorem made_len (bs : List UInt8) (n : Nat) : (lettersMade bs n).length = n := by simp [lettersMade]
theorem made_all (bs : List UInt8) (n : Nat) : (lettersMade bs n).all letB = true := by
  simp [lettersMade, let52_ok]
theorem u8_mod (n : Nat) (x : Int) (h : x = ((n : Nat) : Int)) : u8 x = ((n % 256 : Nat) : Int) := by
  subst h
  show IntKind.wrap .u8 _ = _
  simp [IntKind.wrap, IntKind.bits, IntKind.signed]
theorem letters_loop {bs : List UInt8} {ll : List AV} (hr : Row ll bs) {least most : Nat} (hm : most ≤ 1000) (hl : least ≤ 1000) {n : Nat} (hn : n = min most (max bs.length least)) : ∀ (m i : Nat), i + m = n →
    iter F_law07_Letters_L0 [.n bs.length, .l ll, .i ((least : Nat) : Int), .i ((most : Nat) : Int), .s (lettersMade bs i), .i ((i : Nat) : Int)] = some [.s (lettersMade bs n)]
  | 0, i, h => by
    obtain rfl : i = n := by omega
    refine iter_end ?_
    unfold F_law07_Letters_L0
    by_cases h1 : ((i : Nat) : Int) < ((most : Nat) : Int)
    · have h2 : ¬ ((i : Nat) : Int) < ((bs.length : Nat) : Int) := by omega
      have h3 : ¬ ((i : Nat) : Int) < ((least : Nat) : Int) := by omega
      simp only [h1, h2, h3, decide_true, decide_false, onI_c, onS_c, onB_c, onN_c, onL_c, Option.bind_some, Option.map_some, cond_true, cond_false, ↓onI_c, ↓onS_c, ↓onB_c, ↓onN_c, ↓onL_c, ↓Option.bind_some, ↓cond_true, ↓cond_false, decide_eq_true, decide_eq_false, Bool.not_true, Bool.not_false, Int.toNat_natCast, List.length_append, List.length_cons, List.length_nil, List.drop_zero, Nat.zero_add, Nat.add_zero, decT, decF, bneI_t, bneI_f]
    · simp only [h1, decide_false, onI_c, onS_c, onB_c, onN_c, onL_c, Option.bind_some, Option.map_some, cond_true, cond_false, ↓onI_c, ↓onS_c, ↓onB_c, ↓onN_c, ↓onL_c, ↓Option.bind_some, ↓cond_true, ↓cond_false, decide_eq_true, decide_eq_false, Bool.not_true, Bool.not_false, Int.toNat_natCast, List.length_append, List.length_cons, List.length_nil, List.drop_zero, Nat.zero_add, Nat.add_zero, decT, decF, bneI_t, bneI_f]
  | m + 1, i, h => by
    have hi : i < n := by omega
    have hmo : ((i : Nat) : Int) < ((most : Nat) : Int) := by omega
    have h0 : (0 : Int) ≤ ((i : Nat) : Int) := by omega
    have e4 : i64 ((i : Int) + 1) = ((i + 1 : Nat) : Int) := by rw [i64_in _ (by omega)]; omega
    have hlen := made_len bs i
    have hN : numAt bs i < 256 := by
      unfold numAt; split
      · exact UInt8.toNat_lt _
      · exact Nat.mod_lt _ (by omega)
    have key : F_law07_Letters_L0 [.n bs.length, .l ll, .i ((least : Nat) : Int), .i ((most : Nat) : Int), .s (lettersMade bs i), .i ((i : Nat) : Int)] = some (.inl [.n bs.length, .l ll, .i ((least : Nat) : Int), .i ((most : Nat) : Int), .s (lettersMade bs (i + 1)), .i ((i + 1 : Nat) : Int)]) := by
      rw [made_succ]
      have hk : numAt bs i % 52 < 52 := Nat.mod_lt _ (by omega)
      have e3 := let52_at hk
      have f2 : u8 (((numAt bs i % 52 : Nat) : Int) + 1) = ((numAt bs i % 52 + 1 : Nat) : Int) := by rw [u8_in _ (by omega)]; omega
      have f1 : Int.tmod ((numAt bs i : Nat) : Int) 52 = ((numAt bs i % 52 : Nat) : Int) := by rw [tmod_nn (by omega)]; omega
      unfold F_law07_Letters_L0
      by_cases h2 : i < bs.length
      · have g1 := hr.2 i h2
        have hq : (((bs.getD i 0).toNat : Nat) : Int) = ((numAt bs i : Nat) : Int) := by unfold numAt; rw [if_pos h2]
        rw [hq] at g1
        generalize numAt bs i = q at *
        generalize q % 52 = k at *
        have h2' : ((i : Nat) : Int) < ((bs.length : Nat) : Int) := by omega
        have h3 : (List.take (k + 1 - k) (List.drop k abc52)).length = 1 := by rw [e3]; rfl
        unfold abc52 at e3 h3
        clear hr hn
        simp (disch := omega) only [hmo, h0, and_true, and_self, g1, f1, f2, e3, h3, e4, hlen, h2', onI_c, onS_c, onB_c, onN_c, onL_c, Option.bind_some, Option.map_some, cond_true, cond_false, ↓onI_c, ↓onS_c, ↓onB_c, ↓onN_c, ↓onL_c, ↓Option.bind_some, ↓cond_true, ↓cond_false, decide_eq_true, decide_eq_false, Bool.not_true, Bool.not_false, Int.toNat_natCast, List.length_append, List.length_cons, List.length_nil, List.drop_zero, Nat.zero_add, Nat.add_zero, decT, decF, bneI_t, bneI_f, decide_true, Int.toNat_natCast]
      · have hq : u8 (i64 (((i : Nat) : Int) * 7)) = ((numAt bs i : Nat) : Int) := by
          rw [i64_in _ (by omega)]
          unfold numAt; rw [if_neg h2]
          exact u8_mod (i * 7) _ (by omega)
        generalize numAt bs i = q at *
        generalize q % 52 = k at *
        have h2' : ¬ ((i : Nat) : Int) < ((bs.length : Nat) : Int) := by omega
        have h3 : (List.take (k + 1 - k) (List.drop k abc52)).length = 1 := by rw [e3]; rfl
        unfold abc52 at e3 h3
        have hle : ((i : Nat) : Int) < ((least : Nat) : Int) := by omega
        clear hr hn
        simp (disch := omega) only [hmo, hle, h0, and_true, and_self, hq, f1, f2, e3, h3, e4, hlen, h2', onI_c, onS_c, onB_c, onN_c, onL_c, Option.bind_some, Option.map_some, cond_true, cond_false, ↓onI_c, ↓onS_c, ↓onB_c, ↓onN_c, ↓onL_c, ↓Option.bind_some, ↓cond_true, ↓cond_false, decide_eq_true, decide_eq_false, Bool.not_true, Bool.not_false, Int.toNat_natCast, List.length_append, List.length_cons, List.length_nil, List.drop_zero, Nat.zero_add, Nat.add_zero, decT, decF, bneI_t, bneI_f, decide_true, decide_false, Int.toNat_natCast]
    rw [iter_next key, letters_loop hr hm hl hn m (i + 1) (by omega)]
theorem Letters_made {bs : List UInt8} {ll : List AV} (hr : Row ll bs) {least most : Nat} (hm : most ≤ 1000) (hl : least ≤ 1000) : F_law07_Letters [.n bs.length, .l ll, .i ((least : Nat) : Int), .i ((most : Nat) : Int)] = some [.s (lettersMade bs (min most (max bs.length least)))] := by
  unfold F_law07_Letters
  rw [onN_c, onL_c, onI_c, onI_c]
  exact letters_loop hr hm hl rfl _ 0 (Nat.zero_add _)
end Go.Proofs.YtgmmcmfnniaekaaDoor
