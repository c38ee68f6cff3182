/-
  MLet, MAmo, MZnu, MLnk, MPrn, MBck, as one text.
-/
import Derived.Test.YtgmmcmfnniaekaaDoorMNstlin
import Derived.Test.YtgmmcmfnniaekaaDoorAxT
import Derived.Test.YtgmmcmfnniaekaaDoorMLexlin
namespace Go.Proofs.YtgmmcmfnniaekaaDoor
open Go.Ax
set_option linter.all false
set_option maxHeartbeats 4000000
set_option maxRecDepth 100000
attribute [local congr] cond_cong bind_cong onI_cong onB_cong onS_cong onN_cong onL_cong

/-- Rows of rows of bytes. -/
def Row (c : List AV) (b : List UInt8) : Prop := c.length = b.length ∧ ∀ j, j < b.length → asI .u8 c[j]? = some (((b.getD j 0).toNat : Nat) : Int)
def Rows (cells : List AV) (ds : List (List UInt8)) : Prop := cells.length = ds.length ∧ ∀ i, i < ds.length → ∃ c, asL cells[i]? = some ((ds.getD i []).length, c) ∧ Row c (ds.getD i [])
theorem row_of {τ : Tys} {e n : Nat} {c : List AV} (ht : tks τ 12 e = some [.int .u8]) (h : CellOk τ (.slice e) (.seq (.sym n) c)) : ∃ b, Row c b ∧ n = b.length := by
  cases h with
  | slice he hp hl hn h =>
    rw [ht] at he
    cases he
    have hl : c.length = n := by simpa using hl
    have key : ∀ (c : List AV), (∀ (i : Nat) (x : AV), c[i]? = some x → CellOk τ (.int .u8) x) → ∃ b, Row c b := by
      intro c
      induction c with
      | nil => intro _; exact ⟨[], rfl, fun j hj => by simp at hj⟩
      | cons x c ih =>
        intro hc
        obtain ⟨b, hb1, hb2⟩ := ih (fun i y q => hc (i + 1) y q)
        have h0 := hc 0 x rfl
        cases h0 with | int hw =>
        rename_i v
        have hv := wf_u8 hw
        refine ⟨UInt8.ofNat v.toNat :: b, by simp [hb1], fun j hj => ?_⟩
        cases j with
        | zero =>
          show some v = _
          congr 1
          rw [List.getD_cons_zero, UInt8.toNat_ofNat']
          omega
        | succ j => simpa using hb2 j (by simpa using hj)
    obtain ⟨b, hb⟩ := key c (fun i x q => h i x (.int .u8) q (by simp [Nat.mod_one]))
    exact ⟨b, hb, by rw [← hb.1, hl]⟩
theorem rows_of {τ : Tys} {e e2 n : Nat} {c : List AV} (ht : tks τ 12 e = some [.slice e2]) (ht2 : tks τ 12 e2 = some [.int .u8]) (h : CellOk τ (.slice e) (.seq (.sym n) c)) : ∃ ds, Rows c ds ∧ n = ds.length := by
  cases h with
  | slice he hp hl hn h =>
    rw [ht] at he
    cases he
    have hl : c.length = n := by simpa using hl
    have key : ∀ (c : List AV), (∀ (i : Nat) (x : AV), c[i]? = some x → CellOk τ (.slice e2) x) → ∃ ds, Rows c ds := by
      intro c
      induction c with
      | nil => intro _; exact ⟨[], rfl, fun j hj => by simp at hj⟩
      | cons x c ih =>
        intro hc
        obtain ⟨ds, hd1, hd2⟩ := ih (fun i y q => hc (i + 1) y q)
        have h0 := hc 0 x rfl
        have h0' := h0
        cases h0 with | slice _ _ _ _ _ =>
        obtain ⟨b, hb, hbn⟩ := row_of ht2 h0'
        refine ⟨b :: ds, by simp [hd1], fun i hi => ?_⟩
        cases i with
        | zero => exact ⟨_, by rw [List.getD_cons_zero, ← hbn]; rfl, hb⟩
        | succ i => simpa using hd2 i (by simpa using hi)
    obtain ⟨ds, hd⟩ := key c (fun i x q => h i x (.slice e2) q (by simp [Nat.mod_one]))
    exact ⟨ds, hd, by rw [← hd.1, hl]⟩
theorem Row.take {c b} (h : Row c b) (n : Nat) : Row (c.take n) (b.take n) := by
  refine ⟨by simp [h.1], fun j hj => ?_⟩
  rw [List.length_take] at hj
  have := h.2 j (by omega)
  rw [List.getElem?_take, if_pos (by omega), this]
  congr 3
  simp only [List.getD_eq_getElem?_getD]
  rw [List.getElem?_take, if_pos (by omega)]
theorem Rows.take {c ds} (h : Rows c ds) (n : Nat) : Rows (c.take n) (ds.take n) := by
  refine ⟨by simp [h.1], fun j hj => ?_⟩
  rw [List.length_take] at hj
  obtain ⟨r, h1, h2⟩ := h.2 j (by omega)
  have e : (ds.take n).getD j [] = ds.getD j [] := by
    simp only [List.getD_eq_getElem?_getD]
    rw [List.getElem?_take, if_pos (by omega)]
  exact ⟨r, by rw [List.getElem?_take, if_pos (by omega), e, h1], by rw [e]; exact h2⟩


def abc52 : List UInt8 := [65, 66, 67, 68, 69, 70, 71, 72, 73, 74, 75, 76, 77, 78, 79, 80, 81, 82, 83, 84, 85, 86, 87, 88, 89, 90, 97, 98, 99, 100, 101, 102, 103, 104, 105, 106, 107, 108, 109, 110, 111, 112, 113, 114, 115, 116, 117, 118, 119, 120, 121, 122]
def let52 (k : Nat) : UInt8 := abc52.getD (k % 52) 0
theorem let52_at {k : Nat} (h : k < 52) : List.take (k + 1 - k) (List.drop k abc52) = [let52 k] := by
  have : ∀ k : Fin 52, List.take (k.val + 1 - k.val) (List.drop k.val abc52) = [let52 k.val] := by decide +kernel
  exact this ⟨k, h⟩
theorem let52_ok (k : Nat) : letB (let52 k) = true := by
  have : ∀ k : Fin 52, letB (abc52.getD k.val 0) = true := by decide +kernel
  exact this ⟨k % 52, Nat.mod_lt _ (by omega)⟩
/-- Letters by numbers. -/
def numAt (bs : List UInt8) (i : Nat) : Nat := if i < bs.length then (bs.getD i 0).toNat else (i * 7) % 256
def lettersMade (bs : List UInt8) (n : Nat) : List UInt8 := (List.range n).map fun i => let52 (numAt bs i % 52)
theorem made_succ (bs : List UInt8) (n : Nat) : lettersMade bs (n + 1) = lettersMade bs n ++ [let52 (numAt bs n % 52)] := by simp [lettersMade, List.range_succ]
theorem made_len (bs : List UInt8) (n : Nat) : (lettersMade bs n).length = n := by simp [lettersMade]
theorem made_all (bs : List UInt8) (n : Nat) : (lettersMade bs n).all letB = true := by
  simp [lettersMade, let52_ok]
theorem u8_mod (n : Nat) (x : Int) (h : x = ((n : Nat) : Int)) : u8 x = ((n % 256 : Nat) : Int) := by
  subst h
  show IntKind.wrap .u8 _ = _
  simp [IntKind.wrap, IntKind.bits, IntKind.signed]
theorem letters_loop {bs : List UInt8} {ll : List AV} (hr : Row ll bs) {least most : Nat} (hm : most ≤ 1000) (hl : least ≤ 1000) {n : Nat} (hn : n = min most (max bs.length least)) : ∀ (m i : Nat), i + m = n →
    iter F_law07_Letters_L0 [.n bs.length, .l ll, .i ((least : Nat) : Int), .i ((most : Nat) : Int), .s (lettersMade bs i), .i ((i : Nat) : Int)] = some [.s (lettersMade bs n)]
  | 0, i, h => by
    obtain rfl : i = n := by omega
    refine iter_end ?_
    unfold F_law07_Letters_L0
    by_cases h1 : ((i : Nat) : Int) < ((most : Nat) : Int)
    · have h2 : ¬ ((i : Nat) : Int) < ((bs.length : Nat) : Int) := by omega
      have h3 : ¬ ((i : Nat) : Int) < ((least : Nat) : Int) := by omega
      simp only [h1, h2, h3, decide_true, decide_false, onI_c, onS_c, onB_c, onN_c, onL_c, Option.bind_some, Option.map_some, cond_true, cond_false, ↓onI_c, ↓onS_c, ↓onB_c, ↓onN_c, ↓onL_c, ↓Option.bind_some, ↓cond_true, ↓cond_false, decide_eq_true, decide_eq_false, Bool.not_true, Bool.not_false, Int.toNat_natCast, List.length_append, List.length_cons, List.length_nil, List.drop_zero, Nat.zero_add, Nat.add_zero, decT, decF, bneI_t, bneI_f]
    · simp only [h1, decide_false, onI_c, onS_c, onB_c, onN_c, onL_c, Option.bind_some, Option.map_some, cond_true, cond_false, ↓onI_c, ↓onS_c, ↓onB_c, ↓onN_c, ↓onL_c, ↓Option.bind_some, ↓cond_true, ↓cond_false, decide_eq_true, decide_eq_false, Bool.not_true, Bool.not_false, Int.toNat_natCast, List.length_append, List.length_cons, List.length_nil, List.drop_zero, Nat.zero_add, Nat.add_zero, decT, decF, bneI_t, bneI_f]
  | m + 1, i, h => by
    have hi : i < n := by omega
    have hmo : ((i : Nat) : Int) < ((most : Nat) : Int) := by omega
    have h0 : (0 : Int) ≤ ((i : Nat) : Int) := by omega
    have e4 : i64 ((i : Int) + 1) = ((i + 1 : Nat) : Int) := by rw [i64_in _ (by omega)]; omega
    have hlen := made_len bs i
    have hN : numAt bs i < 256 := by
      unfold numAt; split
      · exact UInt8.toNat_lt _
      · exact Nat.mod_lt _ (by omega)
    have key : F_law07_Letters_L0 [.n bs.length, .l ll, .i ((least : Nat) : Int), .i ((most : Nat) : Int), .s (lettersMade bs i), .i ((i : Nat) : Int)] = some (.inl [.n bs.length, .l ll, .i ((least : Nat) : Int), .i ((most : Nat) : Int), .s (lettersMade bs (i + 1)), .i ((i + 1 : Nat) : Int)]) := by
      rw [made_succ]
      have hk : numAt bs i % 52 < 52 := Nat.mod_lt _ (by omega)
      have e3 := let52_at hk
      have f2 : u8 (((numAt bs i % 52 : Nat) : Int) + 1) = ((numAt bs i % 52 + 1 : Nat) : Int) := by rw [u8_in _ (by omega)]; omega
      have f1 : Int.tmod ((numAt bs i : Nat) : Int) 52 = ((numAt bs i % 52 : Nat) : Int) := by rw [tmod_nn (by omega)]; omega
      unfold F_law07_Letters_L0
      by_cases h2 : i < bs.length
      · have g1 := hr.2 i h2
        have hq : (((bs.getD i 0).toNat : Nat) : Int) = ((numAt bs i : Nat) : Int) := by unfold numAt; rw [if_pos h2]
        rw [hq] at g1
        generalize numAt bs i = q at *
        generalize q % 52 = k at *
        have h2' : ((i : Nat) : Int) < ((bs.length : Nat) : Int) := by omega
        have h3 : (List.take (k + 1 - k) (List.drop k abc52)).length = 1 := by rw [e3]; rfl
        unfold abc52 at e3 h3
        clear hr hn
        simp (disch := omega) only [hmo, h0, and_true, and_self, g1, f1, f2, e3, h3, e4, hlen, h2', onI_c, onS_c, onB_c, onN_c, onL_c, Option.bind_some, Option.map_some, cond_true, cond_false, ↓onI_c, ↓onS_c, ↓onB_c, ↓onN_c, ↓onL_c, ↓Option.bind_some, ↓cond_true, ↓cond_false, decide_eq_true, decide_eq_false, Bool.not_true, Bool.not_false, Int.toNat_natCast, List.length_append, List.length_cons, List.length_nil, List.drop_zero, Nat.zero_add, Nat.add_zero, decT, decF, bneI_t, bneI_f, decide_true, Int.toNat_natCast]
      · have hq : u8 (i64 (((i : Nat) : Int) * 7)) = ((numAt bs i : Nat) : Int) := by
          rw [i64_in _ (by omega)]
          unfold numAt; rw [if_neg h2]
          exact u8_mod (i * 7) _ (by omega)
        generalize numAt bs i = q at *
        generalize q % 52 = k at *
        have h2' : ¬ ((i : Nat) : Int) < ((bs.length : Nat) : Int) := by omega
        have h3 : (List.take (k + 1 - k) (List.drop k abc52)).length = 1 := by rw [e3]; rfl
        unfold abc52 at e3 h3
        have hle : ((i : Nat) : Int) < ((least : Nat) : Int) := by omega
        clear hr hn
        simp (disch := omega) only [hmo, hle, h0, and_true, and_self, hq, f1, f2, e3, h3, e4, hlen, h2', onI_c, onS_c, onB_c, onN_c, onL_c, Option.bind_some, Option.map_some, cond_true, cond_false, ↓onI_c, ↓onS_c, ↓onB_c, ↓onN_c, ↓onL_c, ↓Option.bind_some, ↓cond_true, ↓cond_false, decide_eq_true, decide_eq_false, Bool.not_true, Bool.not_false, Int.toNat_natCast, List.length_append, List.length_cons, List.length_nil, List.drop_zero, Nat.zero_add, Nat.add_zero, decT, decF, bneI_t, bneI_f, decide_true, decide_false, Int.toNat_natCast]
    rw [iter_next key, letters_loop hr hm hl hn m (i + 1) (by omega)]
theorem Letters_made {bs : List UInt8} {ll : List AV} (hr : Row ll bs) {least most : Nat} (hm : most ≤ 1000) (hl : least ≤ 1000) : F_law07_Letters [.n bs.length, .l ll, .i ((least : Nat) : Int), .i ((most : Nat) : Int)] = some [.s (lettersMade bs (min most (max bs.length least)))] := by
  unfold F_law07_Letters
  rw [onN_c, onL_c, onI_c, onI_c]
  exact letters_loop hr hm hl rfl _ 0 (Nat.zero_add _)
end Go.Proofs.YtgmmcmfnniaekaaDoor

namespace Go.Proofs.YtgmmcmfnniaekaaDoor
open Go.Ax
set_option linter.all false
set_option maxHeartbeats 4000000
set_option maxRecDepth 100000
attribute [local congr] cond_cong bind_cong onI_cong onB_cong onS_cong onN_cong onL_cong
theorem let_facts (b : UInt8) (h : letB b = true) : Za.oka b = true ∧ Za.okb b = true ∧ b ≠ 47 := by
  have := Za.byte_all (p := fun b => !letB b || (Za.oka b && Za.okb b && !decide (b = 47))) (by decide +kernel) b
  simp [h] at this
  exact ⟨this.1.1, this.1.2, this.2⟩
theorem all_ok {l : List UInt8} (h : l.all letB = true) : l.all Za.okb = true := by
  rw [List.all_eq_true] at h ⊢
  exact fun x hx => (let_facts x (h x hx)).2.1
theorem zone_let {t : List UInt8} {k : Nat} (h : t.all letB = true) (hk : t.length = k) : Zo.zoneV t = (decide (1 ≤ k) && decide (k ≤ 14)) := by
  have hp : Sp.parts 47 t = [t] := parts_nosep (fun x hx => (let_facts x (List.all_eq_true.1 h x hx)).2.2)
  unfold Zo.zoneV
  rw [hp, List.all_cons, List.all_nil, Bool.and_true]
  cases t with
  | nil => simp at hk; subst hk; rfl
  | cons x l =>
    rw [List.all_cons, Bool.and_eq_true] at h
    have h1 := (let_facts x h.1).1
    have h2 := all_ok h.2
    simp only [Za.partOk, h1, h2, Bool.true_and]
    simp at hk
    by_cases q : k ≤ 14
    · rw [decide_eq_true q, decide_eq_true (show l.length ≤ 13 by omega), decide_eq_true (show 1 ≤ k by omega), decide_eq_true (show (x :: l).length ≤ 60 by simp only [List.length_cons]; omega)]
    · rw [decide_eq_false q, decide_eq_false (show ¬ l.length ≤ 13 by omega), Bool.and_false]; simp
theorem set_let {t : List UInt8} {k : Nat} (h : t.all letB = true) (hk : t.length = k) : setV t = (decide (1 ≤ k) && decide (k ≤ 30)) := by
  cases t with
  | nil => simp at hk; subst hk; rfl
  | cons x l =>
    rw [List.all_cons, Bool.and_eq_true] at h
    have h2 : l.all (fun b => letB b || joinB b) = true := by
      rw [List.all_eq_true]; intro y hy; rw [List.all_eq_true.1 h.2 y hy]; rfl
    simp only [setV, h.1, h2, Bool.true_and]
    simp at hk
    by_cases q : k ≤ 30
    · rw [decide_eq_true q, decide_eq_true (show l.length ≤ 29 by omega), decide_eq_true (show 1 ≤ k by omega)]; rfl
    · rw [decide_eq_false q, decide_eq_false (show ¬ l.length ≤ 29 by omega), Bool.and_false]
end Go.Proofs.YtgmmcmfnniaekaaDoor

namespace Go.Proofs.YtgmmcmfnniaekaaDoor
open Go.Ax
set_option linter.all false
set_option maxHeartbeats 4000000
set_option maxRecDepth 100000
attribute [local congr] cond_cong bind_cong onI_cong onB_cong onS_cong onN_cong onL_cong
def abc26 : List UInt8 := [65, 66, 67, 88, 89, 90, 97, 98, 99, 120, 121, 122, 48, 49, 50, 51, 52, 53, 54, 55, 56, 57, 95, 43, 46, 45]
def abcAt (k : Nat) : UInt8 := abc26.getD k 0
theorem abc_at {k : Nat} (h : k < 26) : List.take (k + 1 - k) (List.drop k abc26) = [abcAt k] := by
  have : ∀ k : Fin 26, List.take (k.val + 1 - k.val) (List.drop k.val abc26) = [abcAt k.val] := by decide +kernel
  exact this ⟨k, h⟩
theorem abc_ok {k : Nat} (h : k < 26) : Za.okb (abcAt k) = true ∧ abcAt k ≠ 47 := by
  have : ∀ k : Fin 26, Za.okb (abcAt k.val) = true ∧ abcAt k.val ≠ 47 := by decide +kernel
  exact this ⟨k, h⟩
theorem abc_ok1 {k : Nat} (h : k < 24) : Za.oka (abcAt k) = true ∧ abcAt k ≠ 47 := by
  have : ∀ k : Fin 24, Za.oka (abcAt k.val) = true ∧ abcAt k.val ≠ 47 := by decide +kernel
  exact this ⟨k, h⟩
def ixAt (b : List UInt8) (i : Nat) : Nat := if i = 0 then (b.getD i 0).toNat % 24 else (b.getD i 0).toNat % 26
theorem ix_lt (b : List UInt8) (i : Nat) : ixAt b i < 26 := by
  unfold ixAt; split
  · exact Nat.lt_of_lt_of_le (Nat.mod_lt _ (by omega)) (by omega)
  · exact Nat.mod_lt _ (by omega)
def partRaw (b : List UInt8) (n : Nat) : List UInt8 := (List.range n).map fun i => abcAt (ixAt b i)
theorem raw_succ (b : List UInt8) (n : Nat) : partRaw b (n + 1) = partRaw b n ++ [abcAt (ixAt b n)] := by simp [partRaw, List.range_succ]
theorem raw_len (b : List UInt8) (n : Nat) : (partRaw b n).length = n := by simp [partRaw]
def partMade (b : List UInt8) : List UInt8 := if b = [] then [81] else partRaw b (min b.length 14)
theorem part_loop {b : List UInt8} {c : List AV} (hr : Row c b) (hb : b.length ≤ 14) : ∀ (m i : Nat), i + m = b.length →
    iter F_law07_part_L0 [.s (partRaw b i), .n b.length, .l c, .i ((b.length : Nat) : Int), .i ((i : Nat) : Int)] = some [.s (partMade b)]
  | 0, i, h => by
    obtain rfl : i = b.length := by omega
    refine iter_end ?_
    unfold F_law07_part_L0
    have h1 : ¬ ((b.length : Nat) : Int) < ((b.length : Nat) : Int) := by omega
    cases b with
    | nil => simp only [h1, onI_c, onS_c, onB_c, onN_c, onL_c, Option.bind_some, Option.map_some, cond_true, cond_false, ↓onI_c, ↓onS_c, ↓onB_c, ↓onN_c, ↓onL_c, ↓Option.bind_some, ↓cond_true, ↓cond_false, decide_eq_true, decide_eq_false, Bool.not_true, Bool.not_false, Int.toNat_natCast, List.length_append, List.length_cons, List.length_nil, List.drop_zero, Nat.zero_add, Nat.add_zero, decT, decF, bneI_t, bneI_f, decide_false]; rfl
    | cons x l =>
      have hne : (partRaw (x :: l) (x :: l).length == ([] : List UInt8)) = false := by
        have := raw_len (x :: l) (x :: l).length
        cases hq : partRaw (x :: l) (x :: l).length with
        | nil => rw [hq] at this; simp at this
        | cons => rfl
      have hm : partMade (x :: l) = partRaw (x :: l) (x :: l).length := by
        unfold partMade; rw [if_neg (by simp), Nat.min_eq_left hb]
      rw [hm]
      simp only [h1, hne, onI_c, onS_c, onN_c, onL_c, decide_false, cond_false, Option.map_some]
  | m + 1, i, h => by
    have hi : i < b.length := by omega
    have e4 : i64 ((i : Int) + 1) = ((i + 1 : Nat) : Int) := by rw [i64_in _ (by omega)]; omega
    have hlen := raw_len b i
    have g1 := hr.2 i hi
    have hk := ix_lt b i
    have hd : (b.getD i 0).toNat < 256 := UInt8.toNat_lt _
    have key : F_law07_part_L0 [.s (partRaw b i), .n b.length, .l c, .i ((b.length : Nat) : Int), .i ((i : Nat) : Int)] = some (.inl [.s (partRaw b (i + 1)), .n b.length, .l c, .i ((b.length : Nat) : Int), .i ((i + 1 : Nat) : Int)]) := by
      rw [raw_succ]
      have e3 := abc_at hk
      have f2 : u8 (((ixAt b i : Nat) : Int) + 1) = ((ixAt b i + 1 : Nat) : Int) := by rw [u8_in _ (by omega)]; omega
      have h3 : (List.take (ixAt b i + 1 - ixAt b i) (List.drop (ixAt b i) abc26)).length = 1 := by rw [e3]; rfl
      have h1 : ((i : Nat) : Int) < ((b.length : Nat) : Int) := by omega
      have h0 : (0 : Int) ≤ ((i : Nat) : Int) := by omega
      unfold F_law07_part_L0
      by_cases hz : i = 0
      · have f1 : Int.tmod (((b.getD i 0).toNat : Nat) : Int) 24 = ((ixAt b i : Nat) : Int) := by rw [tmod_nn (by omega)]; unfold ixAt; rw [if_pos hz]; omega
        have hz2 : ((i : Nat) : Int) = 0 := by omega
        generalize ixAt b i = k at *
        generalize (b.getD i 0).toNat = q at *
        unfold abc26 at e3 h3
        clear hr
        simp only [h1, h0, and_true, and_self, g1, f1, f2, e3, h3, e4, hlen, Int.toNat_natCast, onI_c, onS_c, onN_c, onL_c, Option.bind_some, decide_true, cond_true]
        simp (disch := omega) only [hz2, decide_true, cond_true, onI_c, onS_c, onB_c, onN_c, onL_c, Option.bind_some, Option.map_some, cond_true, cond_false, ↓onI_c, ↓onS_c, ↓onB_c, ↓onN_c, ↓onL_c, ↓Option.bind_some, ↓cond_true, ↓cond_false, decide_eq_true, decide_eq_false, Bool.not_true, Bool.not_false, Int.toNat_natCast, List.length_append, List.length_cons, List.length_nil, List.drop_zero, Nat.zero_add, Nat.add_zero, decT, decF, bneI_t, bneI_f]
      · have f1 : Int.tmod (((b.getD i 0).toNat : Nat) : Int) 26 = ((ixAt b i : Nat) : Int) := by rw [tmod_nn (by omega)]; unfold ixAt; rw [if_neg hz]; omega
        have hz2 : ¬ ((i : Nat) : Int) = 0 := by omega
        generalize ixAt b i = k at *
        generalize (b.getD i 0).toNat = q at *
        unfold abc26 at e3 h3
        clear hr
        simp (disch := omega) only [h1, h0, hz2, and_true, and_self, g1, f1, f2, e3, h3, e4, hlen, Int.toNat_natCast, onI_c, onS_c, onB_c, onN_c, onL_c, Option.bind_some, Option.map_some, cond_true, cond_false, ↓onI_c, ↓onS_c, ↓onB_c, ↓onN_c, ↓onL_c, ↓Option.bind_some, ↓cond_true, ↓cond_false, decide_eq_true, decide_eq_false, Bool.not_true, Bool.not_false, Int.toNat_natCast, List.length_append, List.length_cons, List.length_nil, List.drop_zero, Nat.zero_add, Nat.add_zero, decT, decF, bneI_t, bneI_f, decide_true, decide_false]
    rw [iter_next key, part_loop hr hb m (i + 1) (by omega)]
theorem part_made {b : List UInt8} {c : List AV} (hr : Row c b) : F_law07_part [.n b.length, .l c] = some [.s (partMade (b.take 14))] := by
  have hif : (if 14 < ((b.length : Nat) : Int) then (14 : Int) else ((b.length : Nat) : Int)) = (((b.take 14).length : Nat) : Int) := by
    rw [List.length_take]; split <;> omega
  have ht := hr.take 14
  have hl : (b.take 14).length ≤ 14 := by rw [List.length_take]; omega
  have hl2 : (b.take 14).length ≤ b.length := by rw [List.length_take]; omega
  have hc : List.take (b.take 14).length (List.drop 0 c) = c.take 14 := by
    rw [List.drop_zero, List.length_take]
    by_cases h : b.length ≤ 14
    · rw [Nat.min_eq_right h, List.take_of_length_le (by rw [hr.1]; omega), List.take_of_length_le (by rw [hr.1]; omega)]
    · rw [Nat.min_eq_left (by omega)]
  unfold F_law07_part
  rw [onN_c, onL_c, hif]
  have h1 : (0 : Int) ≤ (((b.take 14).length : Nat) : Int) ∧ (((b.take 14).length : Nat) : Int) ≤ ((b.length : Nat) : Int) := ⟨by omega, by omega⟩
  have h2 : 0 + (b.take 14).length ≤ c.length := by rw [hr.1]; omega
  have key := part_loop ht hl (b.take 14).length 0 (Nat.zero_add _)
  rw [decide_eq_true h1, cond_true, Int.toNat_natCast, decide_eq_true h2, cond_true, hc]
  exact key
theorem partMade_ok {b : List UInt8} (hb : b.length ≤ 14) : Za.partOk (partMade b) = true ∧ (∀ x, x ∈ partMade b → x ≠ 47) ∧ (partMade b).length ≤ 14 ∧ partMade b ≠ [] := by
  by_cases h : b = []
  · subst h; refine ⟨by decide +kernel, by decide, by decide, by decide⟩
  · have hm : partMade b = partRaw b b.length := by unfold partMade; rw [if_neg h, Nat.min_eq_left hb]
    have hpos : 0 < b.length := List.length_pos_iff.2 h
    obtain ⟨n, hn⟩ : ∃ n, b.length = n + 1 := ⟨b.length - 1, by omega⟩
    rw [hm]
    refine ⟨?_, ?_, by rw [raw_len]; exact hb, fun e => by have := raw_len b b.length; rw [e] at this; simp at this; omega⟩
    · rw [hn]
      have : partRaw b (n + 1) = abcAt (ixAt b 0) :: (List.range n).map fun i => abcAt (ixAt b (i + 1)) := by
        unfold partRaw
        rw [List.range_succ_eq_map, List.map_cons, List.map_map]
        rfl
      rw [this]
      have h0 : ixAt b 0 < 24 := by unfold ixAt; rw [if_pos rfl]; exact Nat.mod_lt _ (by omega)
      simp only [Za.partOk, (abc_ok1 h0).1, Bool.true_and, Bool.and_eq_true, List.length_map, List.length_range, decide_eq_true_eq]
      refine ⟨?_, by omega⟩
      rw [List.all_eq_true]
      intro x hx
      obtain ⟨i, _, rfl⟩ := List.mem_map.1 hx
      exact (abc_ok (ix_lt b _)).1
    · intro x hx
      obtain ⟨i, _, rfl⟩ := List.mem_map.1 hx
      exact (abc_ok (ix_lt b _)).2
theorem parts_app {c : UInt8} : ∀ (a b : List UInt8), Sp.parts c (a ++ c :: b) = Sp.parts c a ++ Sp.parts c b
  | [], b => by
    show Sp.parts c (c :: b) = [[]] ++ _
    conv => lhs; unfold Sp.parts
    rw [if_pos rfl]; rfl
  | x :: a, b => by
    have ih := parts_app (c := c) a b
    show Sp.parts c (x :: (a ++ c :: b)) = Sp.parts c (x :: a) ++ _
    by_cases hx : x = c
    · conv => lhs; unfold Sp.parts
      conv => rhs; lhs; unfold Sp.parts
      rw [if_pos hx, if_pos hx, ih]; rfl
    · conv => lhs; unfold Sp.parts
      conv => rhs; lhs; unfold Sp.parts
      rw [if_neg hx, if_neg hx, ih]
      have := Sp.parts_ne c a
      cases hq : Sp.parts c a with
      | nil => exact absurd hq this
      | cons p ps => rfl
def pm (d : List UInt8) : List UInt8 := partMade (d.take 14)
def zj (ds : List (List UInt8)) : Nat → List UInt8
  | 0 => []
  | 1 => pm (ds.getD 0 [])
  | n + 2 => (zj ds (n + 1) ++ [47]) ++ pm (ds.getD (n + 1) [])
theorem pm_ok (d : List UInt8) : Za.partOk (pm d) = true ∧ (∀ x, x ∈ pm d → x ≠ 47) ∧ (pm d).length ≤ 14 ∧ pm d ≠ [] := partMade_ok (by rw [List.length_take]; omega)
theorem zj_parts (ds : List (List UInt8)) : ∀ n, (Sp.parts 47 (zj ds (n + 1))).all Za.partOk = true ∧ (zj ds (n + 1)).length ≤ 15 * n + 14 ∧ zj ds (n + 1) ≠ []
  | 0 => by
    obtain ⟨h1, h2, h3, h4⟩ := pm_ok (ds.getD 0 [])
    refine ⟨?_, h3, h4⟩
    show (Sp.parts 47 (pm (ds.getD 0 []))).all Za.partOk = true
    rw [parts_nosep h2, List.all_cons, List.all_nil, Bool.and_true]; exact h1
  | n + 1 => by
    obtain ⟨i1, i2, i3⟩ := zj_parts ds n
    obtain ⟨h1, h2, h3, h4⟩ := pm_ok (ds.getD (n + 1) [])
    refine ⟨?_, ?_, ?_⟩
    · show (Sp.parts 47 ((zj ds (n + 1) ++ [47]) ++ pm (ds.getD (n + 1) []))).all Za.partOk = true
      rw [List.append_assoc, List.singleton_append, parts_app, List.all_append, i1, parts_nosep h2, List.all_cons, List.all_nil, Bool.and_true]; exact h1
    · show ((zj ds (n + 1) ++ [47]) ++ pm (ds.getD (n + 1) [])).length ≤ _
      rw [List.length_append, List.length_append, List.length_singleton]; omega
    · show (zj ds (n + 1) ++ [47]) ++ pm (ds.getD (n + 1) []) ≠ []
      simp
theorem zj_len (ds : List (List UInt8)) (n : Nat) : (zj ds n).length ≤ 15 * n := by
  cases n with
  | zero => simp [zj]
  | succ n => have := (zj_parts ds n).2.1; omega
def zoneMade (ds : List (List UInt8)) : List UInt8 := if ds = [] then [69, 116, 99, 47, 81] else zj ds ds.length
theorem zone_loop {ds : List (List UInt8)} {c : List AV} (hr : Rows c ds) (hb : ds.length ≤ 4) : ∀ (m i : Nat), i + m = ds.length →
    iter F_law07_Zone_L0 [.s (zj ds i), .n ds.length, .l c, .i ((ds.length : Nat) : Int), .i ((i : Nat) : Int)] = some [.s (zoneMade ds)]
  | 0, i, h => by
    obtain rfl : i = ds.length := by omega
    refine iter_end ?_
    unfold F_law07_Zone_L0
    have h1 : ¬ ((ds.length : Nat) : Int) < ((ds.length : Nat) : Int) := by omega
    cases ds with
    | nil => simp only [h1, onI_c, onS_c, onB_c, onN_c, onL_c, Option.bind_some, Option.map_some, cond_true, cond_false, ↓onI_c, ↓onS_c, ↓onB_c, ↓onN_c, ↓onL_c, ↓Option.bind_some, ↓cond_true, ↓cond_false, decide_eq_true, decide_eq_false, Bool.not_true, Bool.not_false, Int.toNat_natCast, List.length_append, List.length_cons, List.length_nil, List.drop_zero, Nat.zero_add, Nat.add_zero, decT, decF, bneI_t, bneI_f, decide_false]; rfl
    | cons x l =>
      have hne : (zj (x :: l) (x :: l).length == ([] : List UInt8)) = false := by
        have := (zj_parts (x :: l) l.length).2.2
        cases hq : zj (x :: l) (x :: l).length with
        | nil => exact absurd hq this
        | cons => rfl
      have hm : zoneMade (x :: l) = zj (x :: l) (x :: l).length := by
        unfold zoneMade; rw [if_neg (by simp)]
      rw [hm]
      simp only [h1, hne, onI_c, onS_c, onN_c, onL_c, decide_false, cond_false, Option.map_some]
  | m + 1, i, h => by
    have hi : i < ds.length := by omega
    have e4 : i64 ((i : Int) + 1) = ((i + 1 : Nat) : Int) := by rw [i64_in _ (by omega)]; omega
    have hlen := zj_len ds i
    obtain ⟨r, g1, g2⟩ := hr.2 i hi
    have hp := part_made g2
    have hpl := (pm_ok (ds.getD i [])).2.2.1
    have key : F_law07_Zone_L0 [.s (zj ds i), .n ds.length, .l c, .i ((ds.length : Nat) : Int), .i ((i : Nat) : Int)] = some (.inl [.s (zj ds (i + 1)), .n ds.length, .l c, .i ((ds.length : Nat) : Int), .i ((i + 1 : Nat) : Int)]) := by
      have h1 : ((i : Nat) : Int) < ((ds.length : Nat) : Int) := by omega
      have h0 : (0 : Int) ≤ ((i : Nat) : Int) := by omega
      unfold F_law07_Zone_L0
      change F_law07_part _ = some [.s (pm (ds.getD i []))] at hp
      generalize hpd : pm (ds.getD i []) = p at *
      cases i with
      | zero =>
        have hz : zj ds (0 + 1) = p := hpd
        rw [hz]
        have h2 : ¬ (0 : Int) < ((0 : Nat) : Int) := by omega
        have hl2 : (zj ds 0).length + p.length ≤ 9223372036854775807 := by omega
        clear hr
        simp only [h1, h0, h2, and_true, and_self, g1, hp, e4, hl2, Int.toNat_natCast, onI_c, onS_c, onB_c, onN_c, onL_c, Option.bind_some, Option.map_some, cond_true, cond_false, ↓onI_c, ↓onS_c, ↓onB_c, ↓onN_c, ↓onL_c, ↓Option.bind_some, ↓cond_true, ↓cond_false, decide_eq_true, decide_eq_false, Bool.not_true, Bool.not_false, Int.toNat_natCast, List.length_append, List.length_cons, List.length_nil, List.drop_zero, Nat.zero_add, Nat.add_zero, decT, decF, bneI_t, bneI_f, decide_true, decide_false]
        rfl
      | succ n =>
        have hz : zj ds (n + 1 + 1) = (zj ds (n + 1) ++ [47]) ++ p := by rw [← hpd]; rfl
        rw [hz]
        have h2 : (0 : Int) < ((n + 1 : Nat) : Int) := by omega
        have hl1 : (zj ds (n + 1)).length + 1 ≤ 9223372036854775807 := by omega
        have hl2 : (zj ds (n + 1) ++ ([47] : List UInt8)).length + p.length ≤ 9223372036854775807 := by rw [List.length_append, List.length_singleton]; omega
        clear hr
        simp only [h1, h0, h2, and_true, and_self, g1, hp, e4, hl1, hl2, Int.toNat_natCast, onI_c, onS_c, onN_c, onL_c, Option.bind_some, ↓onS_c, ↓Option.bind_some, ↓cond_true, cond_true, decide_true, decide_false]
    rw [iter_next key, zone_loop hr hb m (i + 1) (by omega)]
theorem Zone_at {ds : List (List UInt8)} {c : List AV} (hr : Rows c ds) : F_law07_Zone [.n ds.length, .l c] = some [.s (zoneMade (ds.take 4))] := by
  have hif : (if 4 < ((ds.length : Nat) : Int) then (4 : Int) else ((ds.length : Nat) : Int)) = (((ds.take 4).length : Nat) : Int) := by
    rw [List.length_take]; split <;> omega
  have ht := hr.take 4
  have hl : (ds.take 4).length ≤ 4 := by rw [List.length_take]; omega
  have hl2 : (ds.take 4).length ≤ ds.length := by rw [List.length_take]; omega
  have hc : List.take (ds.take 4).length (List.drop 0 c) = c.take 4 := by
    rw [List.drop_zero, List.length_take]
    by_cases h : ds.length ≤ 4
    · rw [Nat.min_eq_right h, List.take_of_length_le (by rw [hr.1]; omega), List.take_of_length_le (by rw [hr.1]; omega)]
    · rw [Nat.min_eq_left (by omega)]
  unfold F_law07_Zone
  rw [onN_c, onL_c, hif]
  have h1 : (0 : Int) ≤ (((ds.take 4).length : Nat) : Int) ∧ (((ds.take 4).length : Nat) : Int) ≤ ((ds.length : Nat) : Int) := ⟨by omega, by omega⟩
  have h2 : 0 + (ds.take 4).length ≤ c.length := by rw [hr.1]; omega
  have key := zone_loop ht hl (ds.take 4).length 0 (Nat.zero_add _)
  rw [decide_eq_true h1, cond_true, Int.toNat_natCast, decide_eq_true h2, cond_true, hc]
  exact key
/-- A name of a zone by numbers. -/
theorem Zone_made {ds : List (List UInt8)} {c : List AV} (hr : Rows c ds) : ∃ z, F_law07_Zone [.n ds.length, .l c] = some [.s z] ∧ (Sp.parts 47 z).all Za.partOk = true ∧ z.length ≤ 59 ∧ z ≠ [] := by
  refine ⟨_, Zone_at hr, ?_⟩
  unfold zoneMade
  split
  · exact ⟨by decide +kernel, by decide, by decide⟩
  · rename_i h
    have hl : (ds.take 4).length ≤ 4 := by rw [List.length_take]; omega
    have hp : 0 < (ds.take 4).length := List.length_pos_iff.2 h
    obtain ⟨n, hn⟩ : ∃ n, (ds.take 4).length = n + 1 := ⟨_, (Nat.succ_pred_eq_of_pos hp).symm⟩
    obtain ⟨a, b, d⟩ := zj_parts (ds.take 4) n
    rw [hn]
    exact ⟨a, by omega, d⟩
end Go.Proofs.YtgmmcmfnniaekaaDoor

namespace Go.Proofs.YtgmmcmfnniaekaaDoor
open Go.Ax
set_option linter.all false
set_option maxHeartbeats 4000000
set_option maxRecDepth 100000
attribute [local congr] cond_cong bind_cong onI_cong onB_cong onS_cong onN_cong onL_cong
theorem slice_le {τ : Tys} {e n : Nat} {c : List AV} (h : CellOk τ (.slice e) (.seq (.sym n) c)) : n ≤ maxLen := by
  cases h with | slice _ _ _ hn _ => exact hn
def fewV (xs : List (List UInt8)) : Bool := xs.all (fun x => decide (x.length ≤ 200)) && decide (xs.length ≤ 10)
theorem few_run {l : List AV} {xs : List (List UInt8)} (h : strsOf l = some xs) (hl : xs.length ≤ 9223372036854775807) : ∀ (m i : Nat), i + m = xs.length →
    iter F_law12_few_L0 [.n xs.length, .l l, .i ((i : Nat) : Int)] = some [.b ((xs.drop i).all (fun x => decide (x.length ≤ 200)) && decide (xs.length ≤ 10))]
  | 0, i, hi => by
    obtain rfl : i = xs.length := by omega
    refine iter_end ?_
    unfold F_law12_few_L0
    have h1 : ¬ ((xs.length : Nat) : Int) < ((xs.length : Nat) : Int) := by omega
    rw [List.drop_of_length_le (Nat.le_refl _)]
    by_cases h2 : xs.length ≤ 10
    · have h3 : ((xs.length : Nat) : Int) ≤ 10 := by omega
      simp only [h1, h2, h3, onI_c, onS_c, onB_c, onN_c, onL_c, Option.bind_some, Option.map_some, cond_true, cond_false, ↓onI_c, ↓onS_c, ↓onB_c, ↓onN_c, ↓onL_c, ↓Option.bind_some, ↓cond_true, ↓cond_false, decide_eq_true, decide_eq_false, Bool.not_true, Bool.not_false, Int.toNat_natCast, List.length_append, List.length_cons, List.length_nil, List.drop_zero, Nat.zero_add, Nat.add_zero, decT, decF, bneI_t, bneI_f, decide_true, decide_false, List.all_nil, Bool.true_and]
    · have h3 : ¬ ((xs.length : Nat) : Int) ≤ 10 := by omega
      simp only [h1, h2, h3, onI_c, onS_c, onB_c, onN_c, onL_c, Option.bind_some, Option.map_some, cond_true, cond_false, ↓onI_c, ↓onS_c, ↓onB_c, ↓onN_c, ↓onL_c, ↓Option.bind_some, ↓cond_true, ↓cond_false, decide_eq_true, decide_eq_false, Bool.not_true, Bool.not_false, Int.toNat_natCast, List.length_append, List.length_cons, List.length_nil, List.drop_zero, Nat.zero_add, Nat.add_zero, decT, decF, bneI_t, bneI_f, decide_true, decide_false, List.all_nil, Bool.and_false]
  | m + 1, i, hi => by
    have hlt : i < xs.length := by omega
    have hd : xs.drop i = xs.getD i [] :: xs.drop (i + 1) := by
      rw [List.drop_eq_getElem_cons hlt]; simp [List.getD, hlt]
    have hg := strsOf_get h hlt
    have e4 : i64 ((i : Int) + 1) = ((i + 1 : Nat) : Int) := by rw [i64_in _ (by omega)]; omega
    have h1 : ((i : Nat) : Int) < ((xs.length : Nat) : Int) := by omega
    have h0 : (0 : Int) ≤ ((i : Nat) : Int) := by omega
    rw [hd, List.all_cons]
    by_cases hb : (xs.getD i []).length ≤ 200
    · have hb2 : ¬ (200 : Int) < (((xs.getD i []).length : Nat) : Int) := by omega
      rw [decide_eq_true hb, Bool.true_and, ← few_run h hl m (i + 1) (by omega)]
      refine iter_next ?_
      generalize xs.getD i [] = x at *
      generalize xs.length = k at *
      clear h hd
      unfold F_law12_few_L0
      simp only [h1, h0, and_self, hg, e4, hb2, Int.toNat_natCast, decide_true, decide_false, onI_c, onS_c, onB_c, onN_c, onL_c, Option.bind_some, cond_true, cond_false]
    · have hb2 : (200 : Int) < (((xs.getD i []).length : Nat) : Int) := by omega
      rw [decide_eq_false hb]
      refine iter_end ?_
      generalize xs.getD i [] = x at *
      generalize xs.length = k at *
      clear h hd
      unfold F_law12_few_L0
      simp only [h1, h0, and_self, hg, e4, hb2, Int.toNat_natCast, decide_true, decide_false, onI_c, onS_c, onB_c, onN_c, onL_c, Option.bind_some, cond_true, cond_false, Option.map_some, Bool.false_and]
theorem few_at {l : List AV} {xs : List (List UInt8)} (h : strsOf l = some xs) (hl : xs.length ≤ 9223372036854775807) : F_law12_few [.n xs.length, .l l] = some [.b (fewV xs)] := by
  unfold F_law12_few
  rw [onN_c, onL_c]
  exact few_run h hl xs.length 0 (Nat.zero_add _)
theorem few_mem {xs : List (List UInt8)} (h : fewV xs = true) : (∀ x ∈ xs, x.length ≤ 200) ∧ xs.length ≤ 10 := by
  unfold fewV at h
  rw [Bool.and_eq_true, List.all_eq_true, decide_eq_true_eq] at h
  exact ⟨fun x hx => of_decide_eq_true (h.1 x hx), h.2⟩
/-! Links. -/
def linkV (xs : List (List UInt8)) : List UInt8 × List UInt8 × Int := match xs with
  | [a, b] => if (Zo.zoneV a && Zo.zoneV b) = true then (a, b, 0) else ([], [], 9)
  | _ => ([], [], 5)
def shiftV (xs : List (List UInt8)) : List UInt8 × Int := match xs with
  | [a] => if setV a = true then (a, 0) else ([], 9)
  | _ => ([], 5)
theorem link_other {xs : List (List UInt8)} (h : xs.length ≠ 2) : linkV xs = ([], [], 5) := by
  match xs, h with
  | [], _ => rfl
  | [_], _ => rfl
  | [_, _], h => exact absurd rfl h
  | _ :: _ :: _ :: _, _ => rfl
theorem shift_other {xs : List (List UInt8)} (h : xs.length ≠ 1) : shiftV xs = ([], 5) := by
  match xs, h with
  | [], _ => rfl
  | [_], h => exact absurd rfl h
  | _ :: _ :: _, _ => rfl
theorem two_of {xs : List (List UInt8)} (h : xs.length = 2) : ∃ a b, xs = [a, b] := by
  match xs, h with
  | [a, b], _ => exact ⟨a, b, rfl⟩
theorem one_of {xs : List (List UInt8)} (h : xs.length = 1) : ∃ a, xs = [a] := by
  match xs, h with
  | [a], _ => exact ⟨a, rfl⟩
theorem link_at {l : List AV} {xs : List (List UInt8)} (h : strsOf l = some xs) (hb : ∀ x ∈ xs, x.length < 4611686018427387904) : F_linkline_Link [.n xs.length, .l l] = some [.s (linkV xs).1, .s (linkV xs).2.1, .i (linkV xs).2.2] := by
  unfold F_linkline_Link
  rw [onN_c, onL_c]
  by_cases hn : xs.length = 2
  · obtain ⟨a, b, rfl⟩ := two_of hn
    have ga := strsOf_get h (i := 0) (by simp)
    have gb := strsOf_get h (i := 1) (by simp)
    change asS l[0]? = some a at ga
    change asS l[1]? = some b at gb
    have na := nameZone_at (s := a) (hb a (by simp))
    have nb := nameZone_at (s := b) (hb b (by simp))
    have hd : (!decide ((([a, b].length : Nat) : Int) = 2)) = false := rfl
    rw [hd, cond_false]
    change iter (F_linkline_Link_L0 2 l) [.n 2, .l l, .i 2, .i 0, .s [], .s []] = _
    have e1 : i64 ((0 : Int) + 1) = 1 := by decide
    have e2 : i64 ((1 : Int) + 1) = 2 := by decide
    have t0 : ((0 : Int)).toNat = 0 := rfl
    have t1 : ((1 : Int)).toNat = 1 := rfl
    have d1 : decide ((0 : Int) < 2) = true := by decide
    have d2 : decide ((0 : Int) ≤ 0 ∧ (0 : Int) < ((2 : Nat) : Int)) = true := by decide
    have d3 : decide ((1 : Int) < 2) = true := by decide
    have d4 : decide ((0 : Int) ≤ 1 ∧ (1 : Int) < ((2 : Nat) : Int)) = true := by decide
    have d5 : decide ((2 : Int) < 2) = false := by decide
    have d6 : decide ((0 : Int) ≤ 0) = true := by decide
    have d7 : decide ((0 : Int) ≤ 1) = true := by decide
    cases ha : Zo.zoneV a with
    | false =>
      rw [ha] at na
      rw [show linkV [a, b] = ([], [], 9) by simp [linkV, ha]]
      refine iter_end ?_
      unfold F_linkline_Link_L0
      simp only [onN_c, onL_c, onI_c, onS_c, onB_c, d1, d2, d6, t0, ga, na, Option.bind_some, cond_true, cond_false, Bool.not_false, Option.map_some]
    | true =>
      rw [ha] at na
      have s1 : F_linkline_Link_L0 2 l [.n 2, .l l, .i 2, .i 0, .s [], .s []] = some (.inl [.n 2, .l l, .i 2, .i 1, .s [], .s []]) := by
        unfold F_linkline_Link_L0
        simp only [onN_c, onL_c, onI_c, onS_c, onB_c, d1, d2, d6, t0, ga, na, e1, Option.bind_some, cond_true, cond_false, Bool.not_true, Option.map_some]
      rw [iter_next s1]
      cases hb' : Zo.zoneV b with
      | false =>
        rw [hb'] at nb
        rw [show linkV [a, b] = ([], [], 9) by simp [linkV, ha, hb']]
        refine iter_end ?_
        unfold F_linkline_Link_L0
        simp only [onN_c, onL_c, onI_c, onS_c, onB_c, d3, d4, d7, t1, gb, nb, Option.bind_some, cond_true, cond_false, Bool.not_false, Option.map_some]
      | true =>
        rw [hb'] at nb
        rw [show linkV [a, b] = (a, b, 0) by simp [linkV, ha, hb']]
        have s2 : F_linkline_Link_L0 2 l [.n 2, .l l, .i 2, .i 1, .s [], .s []] = some (.inl [.n 2, .l l, .i 2, .i 2, .s [], .s []]) := by
          unfold F_linkline_Link_L0
          simp only [onN_c, onL_c, onI_c, onS_c, onB_c, d3, d4, t1, gb, nb, e2, Option.bind_some, cond_true, cond_false, Bool.not_true, Option.map_some]
        rw [iter_next s2]
        refine iter_end ?_
        unfold F_linkline_Link_L0
        simp only [onN_c, onL_c, onI_c, onS_c, onB_c, d5, d2, d4, ga, gb, Option.bind_some, cond_true, cond_false, Option.map_some]
  · have hd : (!decide (((xs.length : Nat) : Int) = 2)) = true := by rw [decide_eq_false (by omega)]; rfl
    rw [hd, cond_true, link_other hn]
theorem shift_at {l : List AV} {xs : List (List UInt8)} (h : strsOf l = some xs) : F_linkline_Shift [.n xs.length, .l l] = some [.s (shiftV xs).1, .i (shiftV xs).2] := by
  unfold F_linkline_Shift
  rw [onN_c, onL_c]
  by_cases hn : xs.length = 1
  · obtain ⟨a, rfl⟩ := one_of hn
    have ga := strsOf_get h (i := 0) (by simp)
    change asS l[0]? = some a at ga
    have na := set_at (s := a)
    have hd : (!decide ((([a].length : Nat) : Int) = 1)) = false := rfl
    rw [hd, cond_false]
    change iter (F_linkline_Shift_L0 1 l) [.n 1, .l l, .i 1, .i 0] = _
    have e1 : i64 ((0 : Int) + 1) = 1 := by decide
    have t0 : ((0 : Int)).toNat = 0 := rfl
    have d1 : decide ((0 : Int) < 1) = true := by decide
    have d2 : decide ((0 : Int) ≤ 0 ∧ (0 : Int) < ((1 : Nat) : Int)) = true := by decide
    have d5 : decide ((1 : Int) < 1) = false := by decide
    have d6 : decide ((0 : Int) ≤ 0) = true := by decide
    cases ha : setV a with
    | false =>
      rw [ha] at na
      rw [show shiftV [a] = ([], 9) by simp [shiftV, ha]]
      refine iter_end ?_
      unfold F_linkline_Shift_L0
      simp only [onN_c, onL_c, onI_c, onS_c, onB_c, d1, d2, d6, t0, ga, na, Option.bind_some, cond_true, cond_false, Bool.not_false, Option.map_some]
    | true =>
      rw [ha] at na
      rw [show shiftV [a] = (a, 0) by simp [shiftV, ha]]
      have s1 : F_linkline_Shift_L0 1 l [.n 1, .l l, .i 1, .i 0] = some (.inl [.n 1, .l l, .i 1, .i 1]) := by
        unfold F_linkline_Shift_L0
        simp only [onN_c, onL_c, onI_c, onS_c, onB_c, d1, d2, d6, t0, ga, na, e1, Option.bind_some, cond_true, cond_false, Bool.not_true, Option.map_some]
      rw [iter_next s1]
      refine iter_end ?_
      unfold F_linkline_Shift_L0
      simp only [onN_c, onL_c, onI_c, onS_c, onB_c, d5, d2, ga, Option.bind_some, cond_true, cond_false, Option.map_some]
  · have hd : (!decide (((xs.length : Nat) : Int) = 1)) = true := by rw [decide_eq_false (by omega)]; rfl
    rw [hd, cond_true, shift_other hn]
theorem rlink_at {l : List AV} {xs : List (List UInt8)} (h : strsOf l = some xs) (hb : ∀ x ∈ xs, x.length < 4611686018427387904) : F_ref12_Link [.n xs.length, .l l] = some [.s (linkV xs).1, .s (linkV xs).2.1, .i (linkV xs).2.2] := by
  unfold F_ref12_Link
  rw [onN_c, onL_c]
  by_cases hn : xs.length = 2
  · obtain ⟨a, b, rfl⟩ := two_of hn
    have ga := strsOf_get h (i := 0) (by simp)
    have gb := strsOf_get h (i := 1) (by simp)
    change asS l[0]? = some a at ga
    change asS l[1]? = some b at gb
    have na := rzone_at (s := a) (hb a (by simp))
    have nb := rzone_at (s := b) (hb b (by simp))
    have hd : (!decide ((([a, b].length : Nat) : Int) = 2)) = false := rfl
    have d2 : decide ((0 : Int) ≤ 0 ∧ (0 : Int) < (([a, b].length : Nat) : Int)) = true := decide_eq_true ⟨by omega, by simp⟩
    have d4 : decide ((0 : Int) ≤ 1 ∧ (1 : Int) < (([a, b].length : Nat) : Int)) = true := decide_eq_true ⟨by omega, by simp⟩
    rw [hd, cond_false]
    cases ha : Zo.zoneV a <;> cases hb' : Zo.zoneV b <;> rw [ha] at na <;> rw [hb'] at nb <;>
      simp only [d2, d4, ga, gb, na, nb, onB_c, Option.bind_some, cond_true, cond_false, Bool.not_true, Bool.not_false] <;> simp [linkV, ha, hb']
  · have hd : (!decide (((xs.length : Nat) : Int) = 2)) = true := by rw [decide_eq_false (by omega)]; rfl
    rw [hd, cond_true, link_other hn]
theorem rshift_at {l : List AV} {xs : List (List UInt8)} (h : strsOf l = some xs) : F_ref12_Shift [.n xs.length, .l l] = some [.s (shiftV xs).1, .i (shiftV xs).2] := by
  unfold F_ref12_Shift
  rw [onN_c, onL_c]
  by_cases hn : xs.length = 1
  · obtain ⟨a, rfl⟩ := one_of hn
    have ga := strsOf_get h (i := 0) (by simp)
    change asS l[0]? = some a at ga
    have na := rset_at (s := a)
    have hd : (!decide ((([a].length : Nat) : Int) = 1)) = false := rfl
    have d2 : decide ((0 : Int) ≤ 0 ∧ (0 : Int) < (([a].length : Nat) : Int)) = true := decide_eq_true ⟨by omega, by simp⟩
    rw [hd, cond_false]
    cases ha : setV a <;> rw [ha] at na <;>
      simp only [d2, ga, na, onB_c, Option.bind_some, cond_true, cond_false, Bool.not_true, Bool.not_false] <;> simp [shiftV, ha]
  · have hd : (!decide (((xs.length : Nat) : Int) = 1)) = true := by rw [decide_eq_false (by omega)]; rfl
    rw [hd, cond_true, shift_other hn]
theorem lawP_LinklineReads {dats : List Dat} (h : DatOk tau [.slice 9] dats) : F_law12_LinklineReads dats = some [.b true] := by
  obtain ⟨n, c, r, rfl, hc, rfl⟩ := h
  have hle := slice_le hc
  obtain ⟨xs, hx, rfl⟩ := cells_strings (by kernel_rfl) hc
  have hf := few_at hx (by unfold maxLen at hle; omega)
  have hw : F_law12_works [] = some [.b true] := rfl
  unfold F_law12_LinklineReads
  cases hfe : fewV xs with
  | false => rw [hfe] at hf; simp only [onN_c, onL_c, hf, hw, onB_c, Option.bind_some, cond_true, Bool.not_false]
  | true =>
    rw [hfe] at hf
    obtain ⟨hb, _⟩ := few_mem hfe
    have hb2 : ∀ x ∈ xs, x.length < 4611686018427387904 := fun x hx => by have := hb x hx; omega
    have h1 := link_at hx hb2
    have h2 := rlink_at hx hb2
    have h3 := shift_at hx
    have h4 := rshift_at hx
    simp only [onN_c, onL_c, hf, hw, h1, h2, h3, h4, onB_c, onS_c, onI_c, Option.bind_some, cond_true, cond_false, Bool.not_true, beq_self_eq_true, decide_true, Bool.and_self]
theorem link_err (xs : List (List UInt8)) : ((linkV xs).2.2 = 5 ↔ xs.length ≠ 2) ∧ ((linkV xs).2.2 = 0 ∨ ((linkV xs).1 = [] ∧ (linkV xs).2.1 = [])) := by
  by_cases hn : xs.length = 2
  · obtain ⟨a, b, rfl⟩ := two_of hn
    unfold linkV
    cases h : (Zo.zoneV a && Zo.zoneV b) <;> simp [h]
  · rw [link_other hn]; simp [hn]
theorem shift_err (xs : List (List UInt8)) : ((shiftV xs).2 = 5 ↔ xs.length ≠ 1) ∧ ((shiftV xs).2 = 0 ∨ (shiftV xs).1 = []) := by
  by_cases hn : xs.length = 1
  · obtain ⟨a, rfl⟩ := one_of hn
    unfold shiftV
    cases h : setV a <;> simp [h]
  · rw [shift_other hn]; simp [hn]
theorem lawP_LinklineNumbers {dats : List Dat} (h : DatOk tau [.slice 9] dats) : F_law12_LinklineNumbers dats = some [.b true] := by
  obtain ⟨n, c, r, rfl, hc, rfl⟩ := h
  have hle := slice_le hc
  obtain ⟨xs, hx, rfl⟩ := cells_strings (by kernel_rfl) hc
  have hf := few_at hx (by unfold maxLen at hle; omega)
  have hw : F_law12_works [] = some [.b true] := rfl
  unfold F_law12_LinklineNumbers
  cases hfe : fewV xs with
  | false => rw [hfe] at hf; simp only [onN_c, onL_c, hf, hw, onB_c, Option.bind_some, cond_true, Bool.not_false]
  | true =>
    rw [hfe] at hf
    obtain ⟨hb, _⟩ := few_mem hfe
    have hb2 : ∀ x ∈ xs, x.length < 4611686018427387904 := fun x hx => by have := hb x hx; omega
    have h1 := link_at hx hb2
    have h3 := shift_at hx
    obtain ⟨l1, l2⟩ := link_err xs
    obtain ⟨s1, s2⟩ := shift_err xs
    have n2 : (decide (((xs.length : Nat) : Int) = 2)) = decide (xs.length = 2) := by by_cases h : xs.length = 2 <;> simp [h] <;> omega
    have n1 : (decide (((xs.length : Nat) : Int) = 1)) = decide (xs.length = 1) := by by_cases h : xs.length = 1 <;> simp [h] <;> omega
    have a1 : decide ((linkV xs).2.2 = 5) = !decide (xs.length = 2) := by by_cases h : xs.length = 2 <;> simp [h, l1]
    have a2 : decide ((shiftV xs).2 = 5) = !decide (xs.length = 1) := by by_cases h : xs.length = 1 <;> simp [h, s1]
    simp only [onN_c, onL_c, hf, hw, h1, h3, onB_c, onS_c, onI_c, Option.bind_some, cond_true, cond_false, Bool.not_true, n1, n2, a1, a2]
    generalize linkV xs = L at *
    generalize shiftV xs = S at *
    obtain ⟨L1, L2, L3⟩ := L
    obtain ⟨S1, S2⟩ := S
    clear l1 s1 a1 a2 h1 h3
    have hz : (decide (xs.length = 2)) = true ∨ (decide (xs.length = 2)) = false := by cases decide (xs.length = 2) <;> simp
    rcases l2 with q | ⟨q, q'⟩ <;> rcases s2 with p | p <;> simp only at q p
    · subst q; subst p
      cases decide (xs.length = 2) <;> cases decide (xs.length = 1) <;> rfl
    · subst q; subst p
      cases decide (xs.length = 2) <;> cases decide (xs.length = 1) <;> cases decide (S2 = 0) <;> rfl
    · simp only at q'
      subst q; subst q'; subst p
      cases decide (xs.length = 2) <;> cases decide (xs.length = 1) <;> cases decide (L3 = 0) <;> rfl
    · simp only at q'
      subst q; subst q'; subst p
      cases decide (xs.length = 2) <;> cases decide (xs.length = 1) <;> cases decide (L3 = 0) <;> cases decide (S2 = 0) <;> rfl
end Go.Proofs.YtgmmcmfnniaekaaDoor

namespace Go.Proofs.YtgmmcmfnniaekaaDoor
open Go.Ax
set_option linter.all false
set_option maxHeartbeats 4000000
set_option maxRecDepth 100000
attribute [local congr] cond_cong bind_cong onI_cong onB_cong onS_cong onN_cong onL_cong
/-! Bytes of names can stand in a line as they are. -/
theorem okb_line (b : UInt8) (h : Za.okb b = true ∨ b = 47) : (32 ≤ b.toNat ∧ b.toNat ≤ 126 ∧ b.toNat ≠ 34) ∧ (b.toNat ≠ 32 ∧ b.toNat ≠ 35) := by
  have := Za.byte_all (p := fun b => !(Za.okb b || decide (b = 47)) || (decide (32 ≤ b.toNat ∧ b.toNat ≤ 126 ∧ b.toNat ≠ 34) && decide (b.toNat ≠ 32 ∧ b.toNat ≠ 35))) (by decide +kernel) b
  have hb : (Za.okb b || decide (b = 47)) = true := by
    rcases h with h | h
    · rw [h]; rfl
    · simp [h]
  rw [hb] at this
  simp only [Bool.not_true, Bool.false_or, Bool.and_eq_true, decide_eq_true_eq] at this
  exact this
theorem set_line (b : UInt8) (h : (letB b || joinB b) = true) : Za.okb b = true := by
  have := Za.byte_all (p := fun b => !(letB b || joinB b) || Za.okb b) (by decide +kernel) b
  rw [h] at this; simpa using this
theorem parts_mem {c : UInt8} : ∀ (s : List UInt8) (x : UInt8), x ∈ s → x = c ∨ ∃ p ∈ Sp.parts c s, x ∈ p
  | [], x, hx => by simp at hx
  | y :: s, x, hx => by
    by_cases hy : y = c
    · rcases List.mem_cons.1 hx with e | h
      · subst e; exact .inl hy
      · rcases parts_mem s x h with h | ⟨p, hp, hxp⟩
        · exact .inl h
        · refine .inr ⟨p, ?_, hxp⟩
          unfold Sp.parts; rw [if_pos hy]; exact List.mem_cons_of_mem _ hp
    · have hne := Sp.parts_ne c s
      cases hq : Sp.parts c s with
      | nil => exact absurd hq hne
      | cons q qs =>
        have hp : Sp.parts c (y :: s) = (y :: q) :: qs := by
          conv => lhs; unfold Sp.parts
          rw [if_neg hy, hq]
        rw [hp]
        rcases List.mem_cons.1 hx with e | h
        · subst e; exact .inr ⟨_, List.mem_cons_self .., List.mem_cons_self ..⟩
        · rcases parts_mem s x h with h | ⟨p, hp, hxp⟩
          · exact .inl h
          · rw [hq] at hp
            rcases List.mem_cons.1 hp with e | h2
            · subst e; exact .inr ⟨_, List.mem_cons_self .., List.mem_cons_of_mem _ hxp⟩
            · exact .inr ⟨p, List.mem_cons_of_mem _ h2, hxp⟩
theorem part_bytes {p : List UInt8} (h : Za.partOk p = true) : ∀ x ∈ p, Za.okb x = true := by
  cases p with
  | nil => intro x hx; simp at hx
  | cons y l =>
    simp only [Za.partOk, Za.oka, Bool.and_eq_true] at h
    intro x hx
    rcases List.mem_cons.1 hx with e | hx
    · subst e; exact h.1.1.1.1
    · exact List.all_eq_true.1 h.1.2 x hx
theorem zone_facts {s : List UInt8} (h : Zo.zoneV s = true) : wrB s = true ∧ bareB s = true ∧ s.length ≤ 60 := by
  unfold Zo.zoneV at h
  rw [Bool.and_eq_true, decide_eq_true_eq] at h
  have hb : ∀ x ∈ s, Za.okb x = true ∨ x = 47 := by
    intro x hx
    rcases parts_mem s x hx with e | ⟨p, hp, hxp⟩
    · exact .inr e
    · exact .inl (part_bytes (List.all_eq_true.1 h.2 p hp) x hxp)
  have hne : s ≠ [] := fun e => by rw [e] at h; simp [Sp.parts, Za.partOk] at h
  refine ⟨?_, ?_, h.1⟩
  · unfold wrB; rw [List.all_eq_true]; intro x hx; exact decide_eq_true (okb_line x (hb x hx)).1
  · unfold bareB
    have : (s == []) = false := by cases s with | nil => exact absurd rfl hne | cons => rfl
    rw [this, Bool.not_false, Bool.true_and, List.all_eq_true]; intro x hx; exact decide_eq_true (okb_line x (hb x hx)).2
theorem set_facts {s : List UInt8} (h : setV s = true) : wrB s = true ∧ bareB s = true ∧ s.length ≤ 30 := by
  cases s with
  | nil => simp [setV] at h
  | cons y l =>
    simp only [setV, Bool.and_eq_true, decide_eq_true_eq] at h
    have hb : ∀ x ∈ y :: l, Za.okb x = true ∨ x = 47 := by
      intro x hx
      rcases List.mem_cons.1 hx with e | hx
      · subst e; exact .inl (set_line _ (by rw [h.1.1]; rfl))
      · exact .inl (set_line _ (List.all_eq_true.1 h.1.2 x hx))
    refine ⟨?_, ?_, by simp only [List.length_cons]; omega⟩
    · unfold wrB; rw [List.all_eq_true]; intro x hx; exact decide_eq_true (okb_line x (hb x hx)).1
    · unfold bareB
      rw [show ((y :: l) == ([] : List UInt8)) = false from rfl, Bool.not_false, Bool.true_and, List.all_eq_true]; intro x hx; exact decide_eq_true (okb_line x (hb x hx)).2
def printV (a b : List UInt8) : List UInt8 × Int := if (Zo.zoneV a && Zo.zoneV b) = true then ((([76, 105, 110, 107, 32] ++ a) ++ [32]) ++ b, 0) else ([], 2)
def printSV (a : List UInt8) : List UInt8 × Int := if setV a = true then ([83, 104, 105, 102, 116, 32] ++ a, 0) else ([], 2)
theorem item_of {s : List UInt8} (h : bareB s = true) : item s = s := by unfold item; rw [if_pos h]
theorem print_at {a b : List UInt8} (ha : a.length < 4611686018427387904) (hb : b.length < 4611686018427387904) : F_linkline_Print [.s a, .s b] = some [.s (printV a b).1, .i (printV a b).2] := by
  have na := nameZone_at ha
  have nb := nameZone_at hb
  unfold F_linkline_Print
  rw [onS_c, onS_c]
  cases h1 : Zo.zoneV a with
  | false => rw [h1] at na; rw [show printV a b = ([], 2) by simp [printV, h1], na]; rfl
  | true =>
    rw [h1] at na
    rw [na, Option.bind_some, onB_c, Bool.not_true, cond_false]
    cases h2 : Zo.zoneV b with
    | false => rw [h2] at nb; rw [show printV a b = ([], 2) by simp [printV, h1, h2], nb]; rfl
    | true =>
      rw [h2] at nb
      rw [nb, Option.bind_some, onB_c, Bool.not_true, cond_false]
      obtain ⟨a1, a2, a3⟩ := zone_facts h1
      obtain ⟨b1, b2, b3⟩ := zone_facts h2
      have hj : joinV [[76, 105, 110, 107], a, b] = ((([76, 105, 110, 107, 32] ++ a) ++ [32]) ++ b, 0) := by
        have e1 : jn true [[76, 105, 110, 107], a, b] = (([76, 105, 110, 107, 32] ++ a) ++ [32]) ++ b := by
          simp only [jn, item_of a2, item_of b2]
          rw [show item [76, 105, 110, 107] = [76, 105, 110, 107] by decide +kernel]
          simp
        unfold joinV
        rw [e1, if_pos (by simp [a1, b1]; decide +kernel), if_neg (by simp; omega)]
      have hs : strsOf [AV.str (.lit [76, 105, 110, 107]), AV.str (.sym a), AV.str (.sym b)] = some [[76, 105, 110, 107], a, b] := rfl
      have hJ := join_at hs (by simp) (by intro x hx; simp at hx; rcases hx with e | e | e <;> subst e <;> first | omega | decide) (n := 3) rfl
      rw [hj] at hJ
      rw [show printV a b = ((([76, 105, 110, 107, 32] ++ a) ++ [32]) ++ b, 0) by simp [printV, h1, h2]]
      change Option.bind (F_lexeme_Join _) _ = _
      rw [hJ]; rfl
theorem printS_at {a : List UInt8} : F_linkline_PrintShift [.s a] = some [.s (printSV a).1, .i (printSV a).2] := by
  have na := set_at (s := a)
  unfold F_linkline_PrintShift
  rw [onS_c]
  cases h1 : setV a with
  | false => rw [h1] at na; rw [show printSV a = ([], 2) by simp [printSV, h1], na]; rfl
  | true =>
    rw [h1] at na
    rw [na, Option.bind_some, onB_c, Bool.not_true, cond_false]
    obtain ⟨a1, a2, a3⟩ := set_facts h1
    have hj : joinV [[83, 104, 105, 102, 116], a] = ([83, 104, 105, 102, 116, 32] ++ a, 0) := by
      have e1 : jn true [[83, 104, 105, 102, 116], a] = [83, 104, 105, 102, 116, 32] ++ a := by
        simp only [jn, item_of a2]
        rw [show item [83, 104, 105, 102, 116] = [83, 104, 105, 102, 116] by decide +kernel]
        simp
      unfold joinV
      rw [e1, if_pos (by simp [a1]; decide +kernel), if_neg (by simp; omega)]
    have hs : strsOf [AV.str (.lit [83, 104, 105, 102, 116]), AV.str (.sym a)] = some [[83, 104, 105, 102, 116], a] := rfl
    have hJ := join_at hs (by simp) (by intro x hx; simp at hx; rcases hx with e | e <;> subst e <;> first | omega | decide) (n := 2) rfl
    rw [hj] at hJ
    rw [show printSV a = ([83, 104, 105, 102, 116, 32] ++ a, 0) by simp [printSV, h1]]
    change Option.bind (F_lexeme_Join _) _ = _
    rw [hJ]; rfl
theorem rprint_at {a b : List UInt8} (ha : a.length ≤ 1000) (hb : b.length ≤ 1000) : F_ref12_Print [.s a, .s b] = some [.s (printV a b).1, .i (printV a b).2] := by
  have na := rzone_at (s := a) (by omega)
  have nb := rzone_at (s := b) (by omega)
  unfold F_ref12_Print
  have d1 : decide (5 + a.length ≤ 9223372036854775807) = true := decide_eq_true (by omega)
  have d2 : decide ((([76, 105, 110, 107, 32] : List UInt8) ++ a).length + 1 ≤ 9223372036854775807) = true := decide_eq_true (by simp; omega)
  have d3 : decide (((([76, 105, 110, 107, 32] : List UInt8) ++ a) ++ ([32] : List UInt8)).length + b.length ≤ 9223372036854775807) = true := decide_eq_true (by simp; omega)
  cases h1 : Zo.zoneV a <;> cases h2 : Zo.zoneV b <;> rw [h1] at na <;> rw [h2] at nb <;>
    simp only [onS_c, na, nb, onB_c, d1, d2, d3, Option.bind_some, cond_true, cond_false, Bool.not_true, Bool.not_false] <;> simp [printV, h1, h2]
theorem rprintS_at {a : List UInt8} (ha : a.length < 4611686018427387904) : F_ref12_PrintShift [.s a] = some [.s (printSV a).1, .i (printSV a).2] := by
  have na := rset_at (s := a)
  unfold F_ref12_PrintShift
  have d1 : decide (6 + a.length ≤ 9223372036854775807) = true := decide_eq_true (by omega)
  cases h1 : setV a <;> rw [h1] at na <;>
    simp only [onS_c, na, onB_c, d1, Option.bind_some, cond_true, cond_false, Bool.not_true, Bool.not_false] <;> simp [printSV, h1]
theorem lawP_LinklinePrints {dats : List Dat} (h : DatOk tau [.string, .string, .string] dats) : F_law12_LinklinePrints dats = some [.b true] := by
  obtain ⟨a, r, rfl, ha, b, r2, rfl, hb, c, r3, rfl, hc, rfl⟩ := h
  have hs : strsOf [AV.str (.sym a), AV.str (.sym b), AV.str (.sym c)] = some [a, b, c] := rfl
  have hf := few_at hs (by simp)
  have hw : F_law12_works [] = some [.b true] := rfl
  have d3 : decide (3 ≤ ([(AV.str (.sym a)), (AV.str (.sym b)), (AV.str (.sym c))]).length) = true := rfl
  change F_law12_few [.n 3, .l _] = _ at hf
  unfold F_law12_LinklinePrints
  cases hfe : fewV [a, b, c] with
  | false => rw [hfe] at hf; simp only [onN_c, onL_c, onS_c, d3, hf, hw, onB_c, Option.bind_some, cond_true, Bool.not_false]
  | true =>
    rw [hfe] at hf
    obtain ⟨hm, _⟩ := few_mem hfe
    have la := hm a (by simp)
    have lb := hm b (by simp)
    have lc := hm c (by simp)
    have h1 := print_at (a := a) (b := b) (by omega) (by omega)
    have h2 := rprint_at (a := a) (b := b) (by omega) (by omega)
    have h3 := printS_at (a := c)
    have h4 := rprintS_at (a := c) (by omega)
    simp only [onN_c, onL_c, d3, hf, hw, h1, h2, h3, h4, onB_c, onS_c, onI_c, Option.bind_some, cond_true, cond_false, Bool.not_true, beq_self_eq_true, decide_true, Bool.and_self]
end Go.Proofs.YtgmmcmfnniaekaaDoor

namespace Go.Proofs.YtgmmcmfnniaekaaDoor
open Go.Ax
set_option linter.all false
set_option maxHeartbeats 4000000
set_option maxRecDepth 100000
attribute [local congr] cond_cong bind_cong onI_cong onB_cong onS_cong onN_cong onL_cong
theorem fields_jn {xs : List (List UInt8)} (hw : xs.all wrB = true) (hl : (jn true xs).length ≤ 300) : ∃ l, F_lexeme_Fields [.s (jn true xs)] = some [.n xs.length, .l l, .i 0] ∧ strsOf l = some xs := by
  have hV : fieldsV (jn true xs) = (xs, 0) := by
    refine fieldsV_of hl ?_
    have := fs_jn ends_nil (xs := xs) (out := []) hw
    rw [List.append_nil, List.nil_append] at this
    exact this
  obtain ⟨l, h1, h2⟩ := fields_at (jn true xs) (by omega)
  rw [hV] at h1 h2
  exact ⟨l, h1, h2⟩
theorem jn_link {a b : List UInt8} (ha : bareB a = true) (hb : bareB b = true) : jn true [[76, 105, 110, 107], a, b] = (([76, 105, 110, 107, 32] ++ a) ++ [32]) ++ b := by
  simp only [jn, item_of ha, item_of hb]
  rw [show item [76, 105, 110, 107] = [76, 105, 110, 107] by decide +kernel]
  simp
theorem jn_shift {a : List UInt8} (ha : bareB a = true) : jn true [[83, 104, 105, 102, 116], a] = [83, 104, 105, 102, 116, 32] ++ a := by
  simp only [jn, item_of ha]
  rw [show item [83, 104, 105, 102, 116] = [83, 104, 105, 102, 116] by decide +kernel]
  simp
theorem zone_true' {a : List UInt8} (h : (Sp.parts 47 a).all Za.partOk = true) (hl : a.length ≤ 60) : Zo.zoneV a = true := by
  unfold Zo.zoneV; rw [h, decide_eq_true hl]; rfl
theorem lawP_LinklineBack {dats : List Dat} (h : DatOk tau [.slice 30, .slice 30, .slice 5] dats) : F_law12_LinklineBack dats = some [.b true] := by
  obtain ⟨n1, c1, r, rfl, hc1, n2, c2, r2, rfl, hc2, n3, c3, r3, rfl, hc3, rfl⟩ := h
  obtain ⟨ds, hd, rfl⟩ := rows_of (e2 := 5) (by kernel_rfl) (by kernel_rfl) hc1
  obtain ⟨es, he, rfl⟩ := rows_of (e2 := 5) (by kernel_rfl) (by kernel_rfl) hc2
  obtain ⟨bs, hb, rfl⟩ := row_of (by kernel_rfl) hc3
  obtain ⟨a, hz, hzp, hzl, hzn⟩ := Zone_made hd
  obtain ⟨b, hy, hyp, hyl, hyn⟩ := Zone_made he
  obtain ⟨t, hT, hal, htl⟩ : ∃ t, F_law07_Letters [.n bs.length, .l c3, .i 0, .i 20] = some [.s t] ∧ t.all letB = true ∧ t.length ≤ 20 :=
    ⟨_, Letters_made (least := 0) (most := 20) hb (by omega) (by omega), made_all _ _, by rw [made_len]; omega⟩
  have za := zone_true' hzp (by omega)
  have zb := zone_true' hyp (by omega)
  have zs : setV ([83] ++ t) = true := by
    show setV (83 :: t) = true
    simp only [setV]
    rw [show letB 83 = true by decide +kernel, decide_eq_true (by omega)]
    have : t.all (fun b => letB b || joinB b) = true := by
      rw [List.all_eq_true]; intro x hx; rw [List.all_eq_true.1 hal x hx]; rfl
    rw [this]; rfl
  obtain ⟨a1, a2, a3⟩ := zone_facts za
  obtain ⟨b1, b2, b3⟩ := zone_facts zb
  obtain ⟨s1, s2, s3⟩ := set_facts zs
  have na := nameZone_at (s := a) (by omega)
  have nb := nameZone_at (s := b) (by omega)
  have ns := set_at (s := [83] ++ t)
  have hP := print_at (a := a) (b := b) (by omega) (by omega)
  have hPS := printS_at (a := [83] ++ t)
  rw [za] at na
  rw [zb] at nb
  rw [zs] at ns
  rw [show printV a b = ((([76, 105, 110, 107, 32] ++ a) ++ [32]) ++ b, 0) by simp [printV, za, zb], ← jn_link a2 b2] at hP
  rw [show printSV ([83] ++ t) = ([83, 104, 105, 102, 116, 32] ++ ([83] ++ t), 0) by simp only [printSV]; rw [if_pos zs], ← jn_shift s2] at hPS
  have hl1 : (jn true [[76, 105, 110, 107], a, b]).length ≤ 300 := by rw [jn_link a2 b2]; simp; omega
  have hl2 : (jn true [[83, 104, 105, 102, 116], [83] ++ t]).length ≤ 300 := by rw [jn_shift s2]; simp; omega
  have wL : wrB [76, 105, 110, 107] = true := by decide +kernel
  have wS : wrB [83, 104, 105, 102, 116] = true := by decide +kernel
  obtain ⟨l, hF, hFs⟩ := fields_jn (xs := [[76, 105, 110, 107], a, b]) (by simp [a1, b1, wL]) hl1
  obtain ⟨m, hG, hGs⟩ := fields_jn (xs := [[83, 104, 105, 102, 116], [83] ++ t]) (by rw [List.all_cons, List.all_cons, wS, s1]; rfl) hl2
  have gl0 := strsOf_get hFs (i := 0) (by simp)
  have gm0 := strsOf_get hGs (i := 0) (by simp)
  have hlen := strsOf_len hFs
  have hlem := strsOf_len hGs
  have hT1 := strsOf_take 2 (strsOf_drop 1 hFs)
  have hT2 := strsOf_take 1 (strsOf_drop 1 hGs)
  have hL := link_at hT1 (by intro x hx; simp at hx; rcases hx with e | e <;> subst e <;> omega)
  have hS := shift_at hT2
  change F_linkline_Link [.n 2, .l _] = some [.s (linkV [a, b]).1, .s (linkV [a, b]).2.1, .i (linkV [a, b]).2.2] at hL
  change F_linkline_Shift [.n 1, .l _] = some [.s (shiftV [[83] ++ t]).1, .i (shiftV [[83] ++ t]).2] at hS
  rw [show linkV [a, b] = (a, b, 0) by simp [linkV, za, zb]] at hL
  rw [show shiftV [[83] ++ t] = ([83] ++ t, 0) by simp only [shiftV]; rw [if_pos zs]] at hS
  have hw : F_law12_works [] = some [.b true] := rfl
  change asS l[0]? = some [76, 105, 110, 107] at gl0
  change asS m[0]? = some [83, 104, 105, 102, 116] at gm0
  change F_lexeme_Fields _ = some [.n 3, .l l, .i 0] at hF
  change F_lexeme_Fields _ = some [.n 2, .l m, .i 0] at hG
  have q1 : decide ((1 + t.length) ≤ 9223372036854775807) = true := decide_eq_true (by omega)
  have q2 : decide (((3 : Nat) : Int) = 3) = true := rfl
  have q3 : decide (((2 : Nat) : Int) = 2) = true := rfl
  have q4 : decide ((0 : Int) ≤ 0 ∧ (0 : Int) < ((3 : Nat) : Int)) = true := by decide
  have q5 : decide ((0 : Int) ≤ 0 ∧ (0 : Int) < ((2 : Nat) : Int)) = true := by decide
  have q6 : decide ((0 : Int) ≤ 1 ∧ (1 : Int) ≤ ((3 : Nat) : Int)) = true := by decide
  have q7 : decide ((0 : Int) ≤ 1 ∧ (1 : Int) ≤ ((2 : Nat) : Int)) = true := by decide
  have q8 : decide ((1 + (3 - 1)) ≤ l.length) = true := decide_eq_true (by rw [← hlen]; simp)
  have q9 : decide ((1 + (2 - 1)) ≤ m.length) = true := decide_eq_true (by rw [← hlem]; simp)
  have p1 : (3 - 1 : Nat) = 2 := rfl
  have p2 : (2 - 1 : Nat) = 1 := rfl
  clear hd he hb hc1 hc2 hc3 hFs hGs hT1 hT2 hlen hlem hl1 hl2 hzp hyp
  generalize jn true [[76, 105, 110, 107], a, b] = u at *
  generalize jn true [[83, 104, 105, 102, 116], [83] ++ t] = v at *
  unfold F_law12_LinklineBack
  simp only [hz, hy, hT, q1, na, nb, ns, hP, hPS, hF, hG, q2, q3, q4, q5, q6, q7, q8, q9, gl0, gm0, p1, p2, hL, hS, hw, onN_c, onL_c, onB_c, onS_c, onI_c, Option.bind_some, cond_true, cond_false, ↓onN_c, ↓onL_c, ↓onB_c, ↓onS_c, ↓onI_c, ↓Option.bind_some, ↓cond_true, ↓cond_false, Bool.not_true, Bool.not_false, beq_self_eq_true, ↓beq_self_eq_true, decide_true, Bool.and_self, Bool.and_true]
end Go.Proofs.YtgmmcmfnniaekaaDoor
