/-
  MLet, MAmo, MZnu, MSpl, MPts, as one text.
-/
import Derived.Test.YtgmmcmfnniaekaaDoorMNstnam
import Derived.Test.YtgmmcmfnniaekaaDoorAxT
namespace Go.Proofs.YtgmmcmfnniaekaaDoor
open Go.Ax
set_option linter.all false
set_option maxHeartbeats 4000000
set_option maxRecDepth 100000
attribute [local congr] cond_cong bind_cong onI_cong onB_cong onS_cong onN_cong onL_cong

/-- Rows of rows of bytes. -/
def Row (c : List AV) (b : List UInt8) : Prop := c.length = b.length ∧ ∀ j, j < b.length → asI .u8 c[j]? = some (((b.getD j 0).toNat : Nat) : Int)
def Rows (cells : List AV) (ds : List (List UInt8)) : Prop := cells.length = ds.length ∧ ∀ i, i < ds.length → ∃ c, asL cells[i]? = some ((ds.getD i []).length, c) ∧ Row c (ds.getD i [])
theorem row_of {τ : Tys} {e n : Nat} {c : List AV} (ht : tks τ 12 e = some [.int .u8]) (h : CellOk τ (.slice e) (.seq (.sym n) c)) : ∃ b, Row c b ∧ n = b.length := by
  cases h with
  | slice he hp hl hn h =>
    rw [ht] at he
    cases he
    have hl : c.length = n := by simpa using hl
    have key : ∀ (c : List AV), (∀ (i : Nat) (x : AV), c[i]? = some x → CellOk τ (.int .u8) x) → ∃ b, Row c b := by
      intro c
      induction c with
      | nil => intro _; exact ⟨[], rfl, fun j hj => by simp at hj⟩
      | cons x c ih =>
        intro hc
        obtain ⟨b, hb1, hb2⟩ := ih (fun i y q => hc (i + 1) y q)
        have h0 := hc 0 x rfl
        cases h0 with | int hw =>
        rename_i v
        have hv := wf_u8 hw
        refine ⟨UInt8.ofNat v.toNat :: b, by simp [hb1], fun j hj => ?_⟩
        cases j with
        | zero =>
          show some v = _
          congr 1
          rw [List.getD_cons_zero, UInt8.toNat_ofNat']
          omega
        | succ j => simpa using hb2 j (by simpa using hj)
    obtain ⟨b, hb⟩ := key c (fun i x q => h i x (.int .u8) q (by simp [Nat.mod_one]))
    exact ⟨b, hb, by rw [← hb.1, hl]⟩
theorem rows_of {τ : Tys} {e e2 n : Nat} {c : List AV} (ht : tks τ 12 e = some [.slice e2]) (ht2 : tks τ 12 e2 = some [.int .u8]) (h : CellOk τ (.slice e) (.seq (.sym n) c)) : ∃ ds, Rows c ds ∧ n = ds.length := by
  cases h with
  | slice he hp hl hn h =>
    rw [ht] at he
    cases he
    have hl : c.length = n := by simpa using hl
    have key : ∀ (c : List AV), (∀ (i : Nat) (x : AV), c[i]? = some x → CellOk τ (.slice e2) x) → ∃ ds, Rows c ds := by
      intro c
      induction c with
      | nil => intro _; exact ⟨[], rfl, fun j hj => by simp at hj⟩
      | cons x c ih =>
        intro hc
        obtain ⟨ds, hd1, hd2⟩ := ih (fun i y q => hc (i + 1) y q)
        have h0 := hc 0 x rfl
        have h0' := h0
        cases h0 with | slice _ _ _ _ _ =>
        obtain ⟨b, hb, hbn⟩ := row_of ht2 h0'
        refine ⟨b :: ds, by simp [hd1], fun i hi => ?_⟩
        cases i with
        | zero => exact ⟨_, by rw [List.getD_cons_zero, ← hbn]; rfl, hb⟩
        | succ i => simpa using hd2 i (by simpa using hi)
    obtain ⟨ds, hd⟩ := key c (fun i x q => h i x (.slice e2) q (by simp [Nat.mod_one]))
    exact ⟨ds, hd, by rw [← hd.1, hl]⟩
theorem Row.take {c b} (h : Row c b) (n : Nat) : Row (c.take n) (b.take n) := by
  refine ⟨by simp [h.1], fun j hj => ?_⟩
  rw [List.length_take] at hj
  have := h.2 j (by omega)
  rw [List.getElem?_take, if_pos (by omega), this]
  congr 3
  simp only [List.getD_eq_getElem?_getD]
  rw [List.getElem?_take, if_pos (by omega)]
theorem Rows.take {c ds} (h : Rows c ds) (n : Nat) : Rows (c.take n) (ds.take n) := by
  refine ⟨by simp [h.1], fun j hj => ?_⟩
  rw [List.length_take] at hj
  obtain ⟨r, h1, h2⟩ := h.2 j (by omega)
  have e : (ds.take n).getD j [] = ds.getD j [] := by
    simp only [List.getD_eq_getElem?_getD]
    rw [List.getElem?_take, if_pos (by omega)]
  exact ⟨r, by rw [List.getElem?_take, if_pos (by omega), e, h1], by rw [e]; exact h2⟩


def abc52 : List UInt8 := [65, 66, 67, 68, 69, 70, 71, 72, 73, 74, 75, 76, 77, 78, 79, 80, 81, 82, 83, 84, 85, 86, 87, 88, 89, 90, 97, 98, 99, 100, 101, 102, 103, 104, 105, 106, 107, 108, 109, 110, 111, 112, 113, 114, 115, 116, 117, 118, 119, 120, 121, 122]
def let52 (k : Nat) : UInt8 := abc52.getD (k % 52) 0
theorem let52_at {k : Nat} (h : k < 52) : List.take (k + 1 - k) (List.drop k abc52) = [let52 k] := by
  have : ∀ k : Fin 52, List.take (k.val + 1 - k.val) (List.drop k.val abc52) = [let52 k.val] := by decide +kernel
  exact this ⟨k, h⟩
theorem let52_ok (k : Nat) : letB (let52 k) = true := by
  have : ∀ k : Fin 52, letB (abc52.getD k.val 0) = true := by decide +kernel
  exact this ⟨k % 52, Nat.mod_lt _ (by omega)⟩
/-- Letters by numbers. -/
def numAt (bs : List UInt8) (i : Nat) : Nat := if i < bs.length then (bs.getD i 0).toNat else (i * 7) % 256
def lettersMade (bs : List UInt8) (n : Nat) : List UInt8 := (List.range n).map fun i => let52 (numAt bs i % 52)
theorem made_succ (bs : List UInt8) (n : Nat) : lettersMade bs (n + 1) = lettersMade bs n ++ [let52 (numAt bs n % 52)] := by simp [lettersMade, List.range_succ]
theorem made_len (bs : List UInt8) (n : Nat) : (lettersMade bs n).length = n := by simp [lettersMade]
theorem made_all (bs : List UInt8) (n : Nat) : (lettersMade bs n).all letB = true := by
  simp [lettersMade, let52_ok]
theorem u8_mod (n : Nat) (x : Int) (h : x = ((n : Nat) : Int)) : u8 x = ((n % 256 : Nat) : Int) := by
  subst h
  show IntKind.wrap .u8 _ = _
  simp [IntKind.wrap, IntKind.bits, IntKind.signed]
theorem letters_loop {bs : List UInt8} {ll : List AV} (hr : Row ll bs) {least most : Nat} (hm : most ≤ 1000) (hl : least ≤ 1000) {n : Nat} (hn : n = min most (max bs.length least)) : ∀ (m i : Nat), i + m = n →
    iter F_law07_Letters_L0 [.n bs.length, .l ll, .i ((least : Nat) : Int), .i ((most : Nat) : Int), .s (lettersMade bs i), .i ((i : Nat) : Int)] = some [.s (lettersMade bs n)]
  | 0, i, h => by
    obtain rfl : i = n := by omega
    refine iter_end ?_
    unfold F_law07_Letters_L0
    by_cases h1 : ((i : Nat) : Int) < ((most : Nat) : Int)
    · have h2 : ¬ ((i : Nat) : Int) < ((bs.length : Nat) : Int) := by omega
      have h3 : ¬ ((i : Nat) : Int) < ((least : Nat) : Int) := by omega
      simp only [h1, h2, h3, decide_true, decide_false, onI_c, onS_c, onB_c, onN_c, onL_c, Option.bind_some, Option.map_some, cond_true, cond_false, ↓onI_c, ↓onS_c, ↓onB_c, ↓onN_c, ↓onL_c, ↓Option.bind_some, ↓cond_true, ↓cond_false, decide_eq_true, decide_eq_false, Bool.not_true, Bool.not_false, Int.toNat_natCast, List.length_append, List.length_cons, List.length_nil, List.drop_zero, Nat.zero_add, Nat.add_zero, decT, decF, bneI_t, bneI_f]
    · simp only [h1, decide_false, onI_c, onS_c, onB_c, onN_c, onL_c, Option.bind_some, Option.map_some, cond_true, cond_false, ↓onI_c, ↓onS_c, ↓onB_c, ↓onN_c, ↓onL_c, ↓Option.bind_some, ↓cond_true, ↓cond_false, decide_eq_true, decide_eq_false, Bool.not_true, Bool.not_false, Int.toNat_natCast, List.length_append, List.length_cons, List.length_nil, List.drop_zero, Nat.zero_add, Nat.add_zero, decT, decF, bneI_t, bneI_f]
  | m + 1, i, h => by
    have hi : i < n := by omega
    have hmo : ((i : Nat) : Int) < ((most : Nat) : Int) := by omega
    have h0 : (0 : Int) ≤ ((i : Nat) : Int) := by omega
    have e4 : i64 ((i : Int) + 1) = ((i + 1 : Nat) : Int) := by rw [i64_in _ (by omega)]; omega
    have hlen := made_len bs i
    have hN : numAt bs i < 256 := by
      unfold numAt; split
      · exact UInt8.toNat_lt _
      · exact Nat.mod_lt _ (by omega)
    have key : F_law07_Letters_L0 [.n bs.length, .l ll, .i ((least : Nat) : Int), .i ((most : Nat) : Int), .s (lettersMade bs i), .i ((i : Nat) : Int)] = some (.inl [.n bs.length, .l ll, .i ((least : Nat) : Int), .i ((most : Nat) : Int), .s (lettersMade bs (i + 1)), .i ((i + 1 : Nat) : Int)]) := by
      rw [made_succ]
      have hk : numAt bs i % 52 < 52 := Nat.mod_lt _ (by omega)
      have e3 := let52_at hk
      have f2 : u8 (((numAt bs i % 52 : Nat) : Int) + 1) = ((numAt bs i % 52 + 1 : Nat) : Int) := by rw [u8_in _ (by omega)]; omega
      have f1 : Int.tmod ((numAt bs i : Nat) : Int) 52 = ((numAt bs i % 52 : Nat) : Int) := by rw [tmod_nn (by omega)]; omega
      unfold F_law07_Letters_L0
      by_cases h2 : i < bs.length
      · have g1 := hr.2 i h2
        have hq : (((bs.getD i 0).toNat : Nat) : Int) = ((numAt bs i : Nat) : Int) := by unfold numAt; rw [if_pos h2]
        rw [hq] at g1
        generalize numAt bs i = q at *
        generalize q % 52 = k at *
        have h2' : ((i : Nat) : Int) < ((bs.length : Nat) : Int) := by omega
        have h3 : (List.take (k + 1 - k) (List.drop k abc52)).length = 1 := by rw [e3]; rfl
        unfold abc52 at e3 h3
        clear hr hn
        simp (disch := omega) only [hmo, h0, and_true, and_self, g1, f1, f2, e3, h3, e4, hlen, h2', onI_c, onS_c, onB_c, onN_c, onL_c, Option.bind_some, Option.map_some, cond_true, cond_false, ↓onI_c, ↓onS_c, ↓onB_c, ↓onN_c, ↓onL_c, ↓Option.bind_some, ↓cond_true, ↓cond_false, decide_eq_true, decide_eq_false, Bool.not_true, Bool.not_false, Int.toNat_natCast, List.length_append, List.length_cons, List.length_nil, List.drop_zero, Nat.zero_add, Nat.add_zero, decT, decF, bneI_t, bneI_f, decide_true, Int.toNat_natCast]
      · have hq : u8 (i64 (((i : Nat) : Int) * 7)) = ((numAt bs i : Nat) : Int) := by
          rw [i64_in _ (by omega)]
          unfold numAt; rw [if_neg h2]
          exact u8_mod (i * 7) _ (by omega)
        generalize numAt bs i = q at *
        generalize q % 52 = k at *
        have h2' : ¬ ((i : Nat) : Int) < ((bs.length : Nat) : Int) := by omega
        have h3 : (List.take (k + 1 - k) (List.drop k abc52)).length = 1 := by rw [e3]; rfl
        unfold abc52 at e3 h3
        have hle : ((i : Nat) : Int) < ((least : Nat) : Int) := by omega
        clear hr hn
        simp (disch := omega) only [hmo, hle, h0, and_true, and_self, hq, f1, f2, e3, h3, e4, hlen, h2', onI_c, onS_c, onB_c, onN_c, onL_c, Option.bind_some, Option.map_some, cond_true, cond_false, ↓onI_c, ↓onS_c, ↓onB_c, ↓onN_c, ↓onL_c, ↓Option.bind_some, ↓cond_true, ↓cond_false, decide_eq_true, decide_eq_false, Bool.not_true, Bool.not_false, Int.toNat_natCast, List.length_append, List.length_cons, List.length_nil, List.drop_zero, Nat.zero_add, Nat.add_zero, decT, decF, bneI_t, bneI_f, decide_true, decide_false, Int.toNat_natCast]
    rw [iter_next key, letters_loop hr hm hl hn m (i + 1) (by omega)]
theorem Letters_made {bs : List UInt8} {ll : List AV} (hr : Row ll bs) {least most : Nat} (hm : most ≤ 1000) (hl : least ≤ 1000) : F_law07_Letters [.n bs.length, .l ll, .i ((least : Nat) : Int), .i ((most : Nat) : Int)] = some [.s (lettersMade bs (min most (max bs.length least)))] := by
  unfold F_law07_Letters
  rw [onN_c, onL_c, onI_c, onI_c]
  exact letters_loop hr hm hl rfl _ 0 (Nat.zero_add _)
end Go.Proofs.YtgmmcmfnniaekaaDoor

namespace Go.Proofs.YtgmmcmfnniaekaaDoor
open Go.Ax
set_option linter.all false
set_option maxHeartbeats 4000000
set_option maxRecDepth 100000
attribute [local congr] cond_cong bind_cong onI_cong onB_cong onS_cong onN_cong onL_cong
theorem let_facts (b : UInt8) (h : letB b = true) : Za.oka b = true ∧ Za.okb b = true ∧ b ≠ 47 := by
  have := Za.byte_all (p := fun b => !letB b || (Za.oka b && Za.okb b && !decide (b = 47))) (by decide +kernel) b
  simp [h] at this
  exact ⟨this.1.1, this.1.2, this.2⟩
theorem all_ok {l : List UInt8} (h : l.all letB = true) : l.all Za.okb = true := by
  rw [List.all_eq_true] at h ⊢
  exact fun x hx => (let_facts x (h x hx)).2.1
theorem zone_let {t : List UInt8} {k : Nat} (h : t.all letB = true) (hk : t.length = k) : Zo.zoneV t = (decide (1 ≤ k) && decide (k ≤ 14)) := by
  have hp : Sp.parts 47 t = [t] := parts_nosep (fun x hx => (let_facts x (List.all_eq_true.1 h x hx)).2.2)
  unfold Zo.zoneV
  rw [hp, List.all_cons, List.all_nil, Bool.and_true]
  cases t with
  | nil => simp at hk; subst hk; rfl
  | cons x l =>
    rw [List.all_cons, Bool.and_eq_true] at h
    have h1 := (let_facts x h.1).1
    have h2 := all_ok h.2
    simp only [Za.partOk, h1, h2, Bool.true_and]
    simp at hk
    by_cases q : k ≤ 14
    · rw [decide_eq_true q, decide_eq_true (show l.length ≤ 13 by omega), decide_eq_true (show 1 ≤ k by omega), decide_eq_true (show (x :: l).length ≤ 60 by simp only [List.length_cons]; omega)]
    · rw [decide_eq_false q, decide_eq_false (show ¬ l.length ≤ 13 by omega), Bool.and_false]; simp
theorem set_let {t : List UInt8} {k : Nat} (h : t.all letB = true) (hk : t.length = k) : setV t = (decide (1 ≤ k) && decide (k ≤ 30)) := by
  cases t with
  | nil => simp at hk; subst hk; rfl
  | cons x l =>
    rw [List.all_cons, Bool.and_eq_true] at h
    have h2 : l.all (fun b => letB b || joinB b) = true := by
      rw [List.all_eq_true]; intro y hy; rw [List.all_eq_true.1 h.2 y hy]; rfl
    simp only [setV, h.1, h2, Bool.true_and]
    simp at hk
    by_cases q : k ≤ 30
    · rw [decide_eq_true q, decide_eq_true (show l.length ≤ 29 by omega), decide_eq_true (show 1 ≤ k by omega)]; rfl
    · rw [decide_eq_false q, decide_eq_false (show ¬ l.length ≤ 29 by omega), Bool.and_false]
theorem letters_let {t : List UInt8} {k : Nat} (a b : Nat) (h : t.all letB = true) (hk : t.length = k) : lettersV ((a : Nat) : Int) ((b : Nat) : Int) t = (decide (a ≤ k) && decide (k ≤ b)) := by
  unfold lettersV
  rw [h, hk, Bool.true_and]
  congr 1
  · by_cases q : a ≤ k
    · rw [decide_eq_true q, decide_eq_true (by omega)]
    · rw [decide_eq_false q, decide_eq_false (by omega)]
  · by_cases q : k ≤ b
    · rw [decide_eq_true q, decide_eq_true (by omega)]
    · rw [decide_eq_false q, decide_eq_false (by omega)]
theorem among_law {bs : List UInt8} {ll : List AV} (hr : Row ll bs) {n : Nat} (hn : n < 256) : F_law07_NameAmong [.n bs.length, .l ll, .i ((n : Nat) : Int)] = some [.b true] := by
  have hk : n % 40 < 40 := Nat.mod_lt _ (by omega)
  have e1 : i64 (Int.tmod ((n : Nat) : Int) 40) = ((n % 40 : Nat) : Int) := by rw [tmod_nn (by omega), i64_in _ (by omega)]; omega
  obtain ⟨t, hL, hal, htl⟩ : ∃ t, F_law07_Letters [.n bs.length, .l ll, .i ((n % 40 : Nat) : Int), .i ((n % 40 : Nat) : Int)] = some [.s t] ∧ t.all letB = true ∧ t.length = n % 40 :=
    ⟨_, Letters_made hr (by omega) (by omega), made_all _ _, by rw [made_len]; omega⟩
  have hz := zone_let hal htl
  have hs := set_let hal htl
  have h4 := letters_let 1 4 hal htl
  have h6 := letters_let 3 6 hal htl
  have hz2 := nameZone_at (s := t) (by omega)
  have hs2 := set_at (s := t)
  have h42 := Letter_at (s := t)
  have h62 := Abbr_at (s := t)
  rw [show ((1 : Nat) : Int) = 1 from rfl, show ((4 : Nat) : Int) = 4 from rfl] at h4
  rw [show ((3 : Nat) : Int) = 3 from rfl, show ((6 : Nat) : Int) = 6 from rfl] at h6
  rw [hz] at hz2
  rw [hs] at hs2
  rw [h4] at h42
  rw [h6] at h62
  clear hz hs h4 h6 hal hr
  generalize n % 40 = k at *
  have d1 : decide ((1 : Int) ≤ ((k : Nat) : Int)) = decide (1 ≤ k) := by by_cases q : 1 ≤ k <;> simp [q] <;> omega
  have d3 : decide ((3 : Int) ≤ ((k : Nat) : Int)) = decide (3 ≤ k) := by by_cases q : 3 ≤ k <;> simp [q] <;> omega
  have d4 : decide (((k : Nat) : Int) ≤ 4) = decide (k ≤ 4) := by by_cases q : k ≤ 4 <;> simp [q] <;> omega
  have d6 : decide (((k : Nat) : Int) ≤ 6) = decide (k ≤ 6) := by by_cases q : k ≤ 6 <;> simp [q] <;> omega
  have d30 : decide (((k : Nat) : Int) ≤ 30) = decide (k ≤ 30) := by by_cases q : k ≤ 30 <;> simp [q] <;> omega
  have d14 : decide (((k : Nat) : Int) ≤ 14) = decide (k ≤ 14) := by by_cases q : k ≤ 14 <;> simp [q] <;> omega
  have d14' : decide ((14 : Int) < ((k : Nat) : Int)) = !decide (k ≤ 14) := by by_cases q : k ≤ 14 <;> simp [q] <;> omega
  have hreg : (k = 0) ∨ (1 ≤ k ∧ k ≤ 2) ∨ (3 ≤ k ∧ k ≤ 4) ∨ (5 ≤ k ∧ k ≤ 6) ∨ (7 ≤ k ∧ k ≤ 14) ∨ (15 ≤ k ∧ k ≤ 30) ∨ 31 ≤ k := by omega
  unfold F_law07_NameAmong
  have hw : F_law07_works [] = some [.b true] := rfl
  rcases hreg with hq | hq | hq | hq | hq | hq | hq
  all_goals
    simp (disch := omega) only [e1, hL, htl, hz2, hs2, h42, h62, d1, d3, d4, d6, d30, d14, d14', hw, onI_c, onS_c, onB_c, onN_c, onL_c, Option.bind_some, Option.map_some, cond_true, cond_false, ↓onI_c, ↓onS_c, ↓onB_c, ↓onN_c, ↓onL_c, ↓Option.bind_some, ↓cond_true, ↓cond_false, decide_eq_true, decide_eq_false, Bool.not_true, Bool.not_false, Int.toNat_natCast, List.length_append, List.length_cons, List.length_nil, List.drop_zero, Nat.zero_add, Nat.add_zero, decT, decF, bneI_t, bneI_f, decide_true, decide_false, Bool.and_true, Bool.true_and, Bool.and_false, Bool.false_and, beq_self_eq_true, ↓beq_self_eq_true, Bool.not_false, bne_self_eq_false]
    try rfl
theorem lawP_NameAmong {dats : List Dat} (h : DatOk tau [.slice 5, .int .u8] dats) : F_law07_NameAmong dats = some [.b true] := by
  obtain ⟨n, c, r, rfl, hc, a, r2, rfl, ha, rfl⟩ := h
  obtain ⟨bs, hb, rfl⟩ := row_of (by kernel_rfl) hc
  have ha := wf_u8 ha
  obtain ⟨m, rfl⟩ : ∃ m : Nat, a = m := ⟨a.toNat, by omega⟩
  exact among_law hb (by omega)
end Go.Proofs.YtgmmcmfnniaekaaDoor

namespace Go.Proofs.YtgmmcmfnniaekaaDoor
open Go.Ax
set_option linter.all false
set_option maxHeartbeats 4000000
set_option maxRecDepth 100000
attribute [local congr] cond_cong bind_cong onI_cong onB_cong onS_cong onN_cong onL_cong
def abc26 : List UInt8 := [65, 66, 67, 88, 89, 90, 97, 98, 99, 120, 121, 122, 48, 49, 50, 51, 52, 53, 54, 55, 56, 57, 95, 43, 46, 45]
def abcAt (k : Nat) : UInt8 := abc26.getD k 0
theorem abc_at {k : Nat} (h : k < 26) : List.take (k + 1 - k) (List.drop k abc26) = [abcAt k] := by
  have : ∀ k : Fin 26, List.take (k.val + 1 - k.val) (List.drop k.val abc26) = [abcAt k.val] := by decide +kernel
  exact this ⟨k, h⟩
theorem abc_ok {k : Nat} (h : k < 26) : Za.okb (abcAt k) = true ∧ abcAt k ≠ 47 := by
  have : ∀ k : Fin 26, Za.okb (abcAt k.val) = true ∧ abcAt k.val ≠ 47 := by decide +kernel
  exact this ⟨k, h⟩
theorem abc_ok1 {k : Nat} (h : k < 24) : Za.oka (abcAt k) = true ∧ abcAt k ≠ 47 := by
  have : ∀ k : Fin 24, Za.oka (abcAt k.val) = true ∧ abcAt k.val ≠ 47 := by decide +kernel
  exact this ⟨k, h⟩
def ixAt (b : List UInt8) (i : Nat) : Nat := if i = 0 then (b.getD i 0).toNat % 24 else (b.getD i 0).toNat % 26
theorem ix_lt (b : List UInt8) (i : Nat) : ixAt b i < 26 := by
  unfold ixAt; split
  · exact Nat.lt_of_lt_of_le (Nat.mod_lt _ (by omega)) (by omega)
  · exact Nat.mod_lt _ (by omega)
def partRaw (b : List UInt8) (n : Nat) : List UInt8 := (List.range n).map fun i => abcAt (ixAt b i)
theorem raw_succ (b : List UInt8) (n : Nat) : partRaw b (n + 1) = partRaw b n ++ [abcAt (ixAt b n)] := by simp [partRaw, List.range_succ]
theorem raw_len (b : List UInt8) (n : Nat) : (partRaw b n).length = n := by simp [partRaw]
def partMade (b : List UInt8) : List UInt8 := if b = [] then [81] else partRaw b (min b.length 14)
theorem part_loop {b : List UInt8} {c : List AV} (hr : Row c b) (hb : b.length ≤ 14) : ∀ (m i : Nat), i + m = b.length →
    iter F_law07_part_L0 [.s (partRaw b i), .n b.length, .l c, .i ((b.length : Nat) : Int), .i ((i : Nat) : Int)] = some [.s (partMade b)]
  | 0, i, h => by
    obtain rfl : i = b.length := by omega
    refine iter_end ?_
    unfold F_law07_part_L0
    have h1 : ¬ ((b.length : Nat) : Int) < ((b.length : Nat) : Int) := by omega
    cases b with
    | nil => simp only [h1, onI_c, onS_c, onB_c, onN_c, onL_c, Option.bind_some, Option.map_some, cond_true, cond_false, ↓onI_c, ↓onS_c, ↓onB_c, ↓onN_c, ↓onL_c, ↓Option.bind_some, ↓cond_true, ↓cond_false, decide_eq_true, decide_eq_false, Bool.not_true, Bool.not_false, Int.toNat_natCast, List.length_append, List.length_cons, List.length_nil, List.drop_zero, Nat.zero_add, Nat.add_zero, decT, decF, bneI_t, bneI_f, decide_false]; rfl
    | cons x l =>
      have hne : (partRaw (x :: l) (x :: l).length == ([] : List UInt8)) = false := by
        have := raw_len (x :: l) (x :: l).length
        cases hq : partRaw (x :: l) (x :: l).length with
        | nil => rw [hq] at this; simp at this
        | cons => rfl
      have hm : partMade (x :: l) = partRaw (x :: l) (x :: l).length := by
        unfold partMade; rw [if_neg (by simp), Nat.min_eq_left hb]
      rw [hm]
      simp only [h1, hne, onI_c, onS_c, onN_c, onL_c, decide_false, cond_false, Option.map_some]
  | m + 1, i, h => by
    have hi : i < b.length := by omega
    have e4 : i64 ((i : Int) + 1) = ((i + 1 : Nat) : Int) := by rw [i64_in _ (by omega)]; omega
    have hlen := raw_len b i
    have g1 := hr.2 i hi
    have hk := ix_lt b i
    have hd : (b.getD i 0).toNat < 256 := UInt8.toNat_lt _
    have key : F_law07_part_L0 [.s (partRaw b i), .n b.length, .l c, .i ((b.length : Nat) : Int), .i ((i : Nat) : Int)] = some (.inl [.s (partRaw b (i + 1)), .n b.length, .l c, .i ((b.length : Nat) : Int), .i ((i + 1 : Nat) : Int)]) := by
      rw [raw_succ]
      have e3 := abc_at hk
      have f2 : u8 (((ixAt b i : Nat) : Int) + 1) = ((ixAt b i + 1 : Nat) : Int) := by rw [u8_in _ (by omega)]; omega
      have h3 : (List.take (ixAt b i + 1 - ixAt b i) (List.drop (ixAt b i) abc26)).length = 1 := by rw [e3]; rfl
      have h1 : ((i : Nat) : Int) < ((b.length : Nat) : Int) := by omega
      have h0 : (0 : Int) ≤ ((i : Nat) : Int) := by omega
      unfold F_law07_part_L0
      by_cases hz : i = 0
      · have f1 : Int.tmod (((b.getD i 0).toNat : Nat) : Int) 24 = ((ixAt b i : Nat) : Int) := by rw [tmod_nn (by omega)]; unfold ixAt; rw [if_pos hz]; omega
        have hz2 : ((i : Nat) : Int) = 0 := by omega
        generalize ixAt b i = k at *
        generalize (b.getD i 0).toNat = q at *
        unfold abc26 at e3 h3
        clear hr
        simp only [h1, h0, and_true, and_self, g1, f1, f2, e3, h3, e4, hlen, Int.toNat_natCast, onI_c, onS_c, onN_c, onL_c, Option.bind_some, decide_true, cond_true]
        simp (disch := omega) only [hz2, decide_true, cond_true, onI_c, onS_c, onB_c, onN_c, onL_c, Option.bind_some, Option.map_some, cond_true, cond_false, ↓onI_c, ↓onS_c, ↓onB_c, ↓onN_c, ↓onL_c, ↓Option.bind_some, ↓cond_true, ↓cond_false, decide_eq_true, decide_eq_false, Bool.not_true, Bool.not_false, Int.toNat_natCast, List.length_append, List.length_cons, List.length_nil, List.drop_zero, Nat.zero_add, Nat.add_zero, decT, decF, bneI_t, bneI_f]
      · have f1 : Int.tmod (((b.getD i 0).toNat : Nat) : Int) 26 = ((ixAt b i : Nat) : Int) := by rw [tmod_nn (by omega)]; unfold ixAt; rw [if_neg hz]; omega
        have hz2 : ¬ ((i : Nat) : Int) = 0 := by omega
        generalize ixAt b i = k at *
        generalize (b.getD i 0).toNat = q at *
        unfold abc26 at e3 h3
        clear hr
        simp (disch := omega) only [h1, h0, hz2, and_true, and_self, g1, f1, f2, e3, h3, e4, hlen, Int.toNat_natCast, onI_c, onS_c, onB_c, onN_c, onL_c, Option.bind_some, Option.map_some, cond_true, cond_false, ↓onI_c, ↓onS_c, ↓onB_c, ↓onN_c, ↓onL_c, ↓Option.bind_some, ↓cond_true, ↓cond_false, decide_eq_true, decide_eq_false, Bool.not_true, Bool.not_false, Int.toNat_natCast, List.length_append, List.length_cons, List.length_nil, List.drop_zero, Nat.zero_add, Nat.add_zero, decT, decF, bneI_t, bneI_f, decide_true, decide_false]
    rw [iter_next key, part_loop hr hb m (i + 1) (by omega)]
theorem part_made {b : List UInt8} {c : List AV} (hr : Row c b) : F_law07_part [.n b.length, .l c] = some [.s (partMade (b.take 14))] := by
  have hif : (if 14 < ((b.length : Nat) : Int) then (14 : Int) else ((b.length : Nat) : Int)) = (((b.take 14).length : Nat) : Int) := by
    rw [List.length_take]; split <;> omega
  have ht := hr.take 14
  have hl : (b.take 14).length ≤ 14 := by rw [List.length_take]; omega
  have hl2 : (b.take 14).length ≤ b.length := by rw [List.length_take]; omega
  have hc : List.take (b.take 14).length (List.drop 0 c) = c.take 14 := by
    rw [List.drop_zero, List.length_take]
    by_cases h : b.length ≤ 14
    · rw [Nat.min_eq_right h, List.take_of_length_le (by rw [hr.1]; omega), List.take_of_length_le (by rw [hr.1]; omega)]
    · rw [Nat.min_eq_left (by omega)]
  unfold F_law07_part
  rw [onN_c, onL_c, hif]
  have h1 : (0 : Int) ≤ (((b.take 14).length : Nat) : Int) ∧ (((b.take 14).length : Nat) : Int) ≤ ((b.length : Nat) : Int) := ⟨by omega, by omega⟩
  have h2 : 0 + (b.take 14).length ≤ c.length := by rw [hr.1]; omega
  have key := part_loop ht hl (b.take 14).length 0 (Nat.zero_add _)
  rw [decide_eq_true h1, cond_true, Int.toNat_natCast, decide_eq_true h2, cond_true, hc]
  exact key
theorem partMade_ok {b : List UInt8} (hb : b.length ≤ 14) : Za.partOk (partMade b) = true ∧ (∀ x, x ∈ partMade b → x ≠ 47) ∧ (partMade b).length ≤ 14 ∧ partMade b ≠ [] := by
  by_cases h : b = []
  · subst h; refine ⟨by decide +kernel, by decide, by decide, by decide⟩
  · have hm : partMade b = partRaw b b.length := by unfold partMade; rw [if_neg h, Nat.min_eq_left hb]
    have hpos : 0 < b.length := List.length_pos_iff.2 h
    obtain ⟨n, hn⟩ : ∃ n, b.length = n + 1 := ⟨b.length - 1, by omega⟩
    rw [hm]
    refine ⟨?_, ?_, by rw [raw_len]; exact hb, fun e => by have := raw_len b b.length; rw [e] at this; simp at this; omega⟩
    · rw [hn]
      have : partRaw b (n + 1) = abcAt (ixAt b 0) :: (List.range n).map fun i => abcAt (ixAt b (i + 1)) := by
        unfold partRaw
        rw [List.range_succ_eq_map, List.map_cons, List.map_map]
        rfl
      rw [this]
      have h0 : ixAt b 0 < 24 := by unfold ixAt; rw [if_pos rfl]; exact Nat.mod_lt _ (by omega)
      simp only [Za.partOk, (abc_ok1 h0).1, Bool.true_and, Bool.and_eq_true, List.length_map, List.length_range, decide_eq_true_eq]
      refine ⟨?_, by omega⟩
      rw [List.all_eq_true]
      intro x hx
      obtain ⟨i, _, rfl⟩ := List.mem_map.1 hx
      exact (abc_ok (ix_lt b _)).1
    · intro x hx
      obtain ⟨i, _, rfl⟩ := List.mem_map.1 hx
      exact (abc_ok (ix_lt b _)).2
theorem parts_app {c : UInt8} : ∀ (a b : List UInt8), Sp.parts c (a ++ c :: b) = Sp.parts c a ++ Sp.parts c b
  | [], b => by
    show Sp.parts c (c :: b) = [[]] ++ _
    conv => lhs; unfold Sp.parts
    rw [if_pos rfl]; rfl
  | x :: a, b => by
    have ih := parts_app (c := c) a b
    show Sp.parts c (x :: (a ++ c :: b)) = Sp.parts c (x :: a) ++ _
    by_cases hx : x = c
    · conv => lhs; unfold Sp.parts
      conv => rhs; lhs; unfold Sp.parts
      rw [if_pos hx, if_pos hx, ih]; rfl
    · conv => lhs; unfold Sp.parts
      conv => rhs; lhs; unfold Sp.parts
      rw [if_neg hx, if_neg hx, ih]
      have := Sp.parts_ne c a
      cases hq : Sp.parts c a with
      | nil => exact absurd hq this
      | cons p ps => rfl
def pm (d : List UInt8) : List UInt8 := partMade (d.take 14)
def zj (ds : List (List UInt8)) : Nat → List UInt8
  | 0 => []
  | 1 => pm (ds.getD 0 [])
  | n + 2 => (zj ds (n + 1) ++ [47]) ++ pm (ds.getD (n + 1) [])
theorem pm_ok (d : List UInt8) : Za.partOk (pm d) = true ∧ (∀ x, x ∈ pm d → x ≠ 47) ∧ (pm d).length ≤ 14 ∧ pm d ≠ [] := partMade_ok (by rw [List.length_take]; omega)
theorem zj_parts (ds : List (List UInt8)) : ∀ n, (Sp.parts 47 (zj ds (n + 1))).all Za.partOk = true ∧ (zj ds (n + 1)).length ≤ 15 * n + 14 ∧ zj ds (n + 1) ≠ []
  | 0 => by
    obtain ⟨h1, h2, h3, h4⟩ := pm_ok (ds.getD 0 [])
    refine ⟨?_, h3, h4⟩
    show (Sp.parts 47 (pm (ds.getD 0 []))).all Za.partOk = true
    rw [parts_nosep h2, List.all_cons, List.all_nil, Bool.and_true]; exact h1
  | n + 1 => by
    obtain ⟨i1, i2, i3⟩ := zj_parts ds n
    obtain ⟨h1, h2, h3, h4⟩ := pm_ok (ds.getD (n + 1) [])
    refine ⟨?_, ?_, ?_⟩
    · show (Sp.parts 47 ((zj ds (n + 1) ++ [47]) ++ pm (ds.getD (n + 1) []))).all Za.partOk = true
      rw [List.append_assoc, List.singleton_append, parts_app, List.all_append, i1, parts_nosep h2, List.all_cons, List.all_nil, Bool.and_true]; exact h1
    · show ((zj ds (n + 1) ++ [47]) ++ pm (ds.getD (n + 1) [])).length ≤ _
      rw [List.length_append, List.length_append, List.length_singleton]; omega
    · show (zj ds (n + 1) ++ [47]) ++ pm (ds.getD (n + 1) []) ≠ []
      simp
theorem zj_len (ds : List (List UInt8)) (n : Nat) : (zj ds n).length ≤ 15 * n := by
  cases n with
  | zero => simp [zj]
  | succ n => have := (zj_parts ds n).2.1; omega
def zoneMade (ds : List (List UInt8)) : List UInt8 := if ds = [] then [69, 116, 99, 47, 81] else zj ds ds.length
theorem zone_loop {ds : List (List UInt8)} {c : List AV} (hr : Rows c ds) (hb : ds.length ≤ 4) : ∀ (m i : Nat), i + m = ds.length →
    iter F_law07_Zone_L0 [.s (zj ds i), .n ds.length, .l c, .i ((ds.length : Nat) : Int), .i ((i : Nat) : Int)] = some [.s (zoneMade ds)]
  | 0, i, h => by
    obtain rfl : i = ds.length := by omega
    refine iter_end ?_
    unfold F_law07_Zone_L0
    have h1 : ¬ ((ds.length : Nat) : Int) < ((ds.length : Nat) : Int) := by omega
    cases ds with
    | nil => simp only [h1, onI_c, onS_c, onB_c, onN_c, onL_c, Option.bind_some, Option.map_some, cond_true, cond_false, ↓onI_c, ↓onS_c, ↓onB_c, ↓onN_c, ↓onL_c, ↓Option.bind_some, ↓cond_true, ↓cond_false, decide_eq_true, decide_eq_false, Bool.not_true, Bool.not_false, Int.toNat_natCast, List.length_append, List.length_cons, List.length_nil, List.drop_zero, Nat.zero_add, Nat.add_zero, decT, decF, bneI_t, bneI_f, decide_false]; rfl
    | cons x l =>
      have hne : (zj (x :: l) (x :: l).length == ([] : List UInt8)) = false := by
        have := (zj_parts (x :: l) l.length).2.2
        cases hq : zj (x :: l) (x :: l).length with
        | nil => exact absurd hq this
        | cons => rfl
      have hm : zoneMade (x :: l) = zj (x :: l) (x :: l).length := by
        unfold zoneMade; rw [if_neg (by simp)]
      rw [hm]
      simp only [h1, hne, onI_c, onS_c, onN_c, onL_c, decide_false, cond_false, Option.map_some]
  | m + 1, i, h => by
    have hi : i < ds.length := by omega
    have e4 : i64 ((i : Int) + 1) = ((i + 1 : Nat) : Int) := by rw [i64_in _ (by omega)]; omega
    have hlen := zj_len ds i
    obtain ⟨r, g1, g2⟩ := hr.2 i hi
    have hp := part_made g2
    have hpl := (pm_ok (ds.getD i [])).2.2.1
    have key : F_law07_Zone_L0 [.s (zj ds i), .n ds.length, .l c, .i ((ds.length : Nat) : Int), .i ((i : Nat) : Int)] = some (.inl [.s (zj ds (i + 1)), .n ds.length, .l c, .i ((ds.length : Nat) : Int), .i ((i + 1 : Nat) : Int)]) := by
      have h1 : ((i : Nat) : Int) < ((ds.length : Nat) : Int) := by omega
      have h0 : (0 : Int) ≤ ((i : Nat) : Int) := by omega
      unfold F_law07_Zone_L0
      change F_law07_part _ = some [.s (pm (ds.getD i []))] at hp
      generalize hpd : pm (ds.getD i []) = p at *
      cases i with
      | zero =>
        have hz : zj ds (0 + 1) = p := hpd
        rw [hz]
        have h2 : ¬ (0 : Int) < ((0 : Nat) : Int) := by omega
        have hl2 : (zj ds 0).length + p.length ≤ 9223372036854775807 := by omega
        clear hr
        simp only [h1, h0, h2, and_true, and_self, g1, hp, e4, hl2, Int.toNat_natCast, onI_c, onS_c, onB_c, onN_c, onL_c, Option.bind_some, Option.map_some, cond_true, cond_false, ↓onI_c, ↓onS_c, ↓onB_c, ↓onN_c, ↓onL_c, ↓Option.bind_some, ↓cond_true, ↓cond_false, decide_eq_true, decide_eq_false, Bool.not_true, Bool.not_false, Int.toNat_natCast, List.length_append, List.length_cons, List.length_nil, List.drop_zero, Nat.zero_add, Nat.add_zero, decT, decF, bneI_t, bneI_f, decide_true, decide_false]
        rfl
      | succ n =>
        have hz : zj ds (n + 1 + 1) = (zj ds (n + 1) ++ [47]) ++ p := by rw [← hpd]; rfl
        rw [hz]
        have h2 : (0 : Int) < ((n + 1 : Nat) : Int) := by omega
        have hl1 : (zj ds (n + 1)).length + 1 ≤ 9223372036854775807 := by omega
        have hl2 : (zj ds (n + 1) ++ ([47] : List UInt8)).length + p.length ≤ 9223372036854775807 := by rw [List.length_append, List.length_singleton]; omega
        clear hr
        simp only [h1, h0, h2, and_true, and_self, g1, hp, e4, hl1, hl2, Int.toNat_natCast, onI_c, onS_c, onN_c, onL_c, Option.bind_some, ↓onS_c, ↓Option.bind_some, ↓cond_true, cond_true, decide_true, decide_false]
    rw [iter_next key, zone_loop hr hb m (i + 1) (by omega)]
theorem Zone_at {ds : List (List UInt8)} {c : List AV} (hr : Rows c ds) : F_law07_Zone [.n ds.length, .l c] = some [.s (zoneMade (ds.take 4))] := by
  have hif : (if 4 < ((ds.length : Nat) : Int) then (4 : Int) else ((ds.length : Nat) : Int)) = (((ds.take 4).length : Nat) : Int) := by
    rw [List.length_take]; split <;> omega
  have ht := hr.take 4
  have hl : (ds.take 4).length ≤ 4 := by rw [List.length_take]; omega
  have hl2 : (ds.take 4).length ≤ ds.length := by rw [List.length_take]; omega
  have hc : List.take (ds.take 4).length (List.drop 0 c) = c.take 4 := by
    rw [List.drop_zero, List.length_take]
    by_cases h : ds.length ≤ 4
    · rw [Nat.min_eq_right h, List.take_of_length_le (by rw [hr.1]; omega), List.take_of_length_le (by rw [hr.1]; omega)]
    · rw [Nat.min_eq_left (by omega)]
  unfold F_law07_Zone
  rw [onN_c, onL_c, hif]
  have h1 : (0 : Int) ≤ (((ds.take 4).length : Nat) : Int) ∧ (((ds.take 4).length : Nat) : Int) ≤ ((ds.length : Nat) : Int) := ⟨by omega, by omega⟩
  have h2 : 0 + (ds.take 4).length ≤ c.length := by rw [hr.1]; omega
  have key := zone_loop ht hl (ds.take 4).length 0 (Nat.zero_add _)
  rw [decide_eq_true h1, cond_true, Int.toNat_natCast, decide_eq_true h2, cond_true, hc]
  exact key
/-- A name of a zone by numbers. -/
theorem Zone_made {ds : List (List UInt8)} {c : List AV} (hr : Rows c ds) : ∃ z, F_law07_Zone [.n ds.length, .l c] = some [.s z] ∧ (Sp.parts 47 z).all Za.partOk = true ∧ z.length ≤ 59 ∧ z ≠ [] := by
  refine ⟨_, Zone_at hr, ?_⟩
  unfold zoneMade
  split
  · exact ⟨by decide +kernel, by decide, by decide⟩
  · rename_i h
    have hl : (ds.take 4).length ≤ 4 := by rw [List.length_take]; omega
    have hp : 0 < (ds.take 4).length := List.length_pos_iff.2 h
    obtain ⟨n, hn⟩ : ∃ n, (ds.take 4).length = n + 1 := ⟨_, (Nat.succ_pred_eq_of_pos hp).symm⟩
    obtain ⟨a, b, d⟩ := zj_parts (ds.take 4) n
    rw [hn]
    exact ⟨a, by omega, d⟩
end Go.Proofs.YtgmmcmfnniaekaaDoor

namespace Go.Proofs.YtgmmcmfnniaekaaDoor
open Go.Ax Go.Lib
set_option linter.all false
set_option maxHeartbeats 4000000
set_option maxRecDepth 100000
attribute [local congr] cond_cong bind_cong onI_cong onB_cong onS_cong onN_cong onL_cong
theorem strsOf_cons (s : Ax.S) (l : List AV) : strsOf (.str s :: l) = (strsOf l).map (s.v :: ·) := rfl
theorem strsOf_get : ∀ {l : List AV} {xs : List (List UInt8)}, strsOf l = some xs → ∀ {i : Nat}, i < xs.length → asS l[i]? = some (xs.getD i [])
  | [], xs, h, i, hi => by cases h; simp at hi
  | c :: l, xs, h, i, hi => by
    unfold strsOf at h
    split at h
    · rename_i e; cases e
    · rename_i n l e
      cases e
      cases hb : strsOf l with
      | none => rw [hb] at h; cases h
      | some s' =>
        rw [hb] at h
        cases h
        cases i with
        | zero => rfl
        | succ i => simpa using strsOf_get hb (by simpa using hi)
    · cases h
theorem strsOf_closed : ∀ {l : List AV} {xs : List (List UInt8)}, strsOf l = some xs → l.all (closedN 20) = true
  | [], xs, h => rfl
  | c :: l, xs, h => by
    unfold strsOf at h
    split at h
    · rename_i e; cases e
    · rename_i n l e
      cases e
      cases hb : strsOf l with
      | none => rw [hb] at h; cases h
      | some s' => rw [List.all_cons, strsOf_closed hb]; rfl
    · cases h
theorem strsOf_append : ∀ {l m : List AV} {xs ys : List (List UInt8)}, strsOf l = some xs → strsOf m = some ys → strsOf (l ++ m) = some (xs ++ ys)
  | [], m, xs, ys, h, k => by cases h; simpa using k
  | c :: l, m, xs, ys, h, k => by
    unfold strsOf at h
    split at h
    · rename_i e; cases e
    · rename_i n l e
      cases e
      cases hb : strsOf l with
      | none => rw [hb] at h; cases h
      | some s' =>
        rw [hb] at h
        cases h
        rw [List.cons_append, strsOf_cons, strsOf_append hb k]; rfl
    · cases h
theorem strsOf_take : ∀ {l : List AV} {xs : List (List UInt8)} (n : Nat), strsOf l = some xs → strsOf (l.take n) = some (xs.take n)
  | [], xs, n, h => by cases h; simp [strsOf]
  | c :: l, xs, 0, h => by simp [strsOf]
  | c :: l, xs, n + 1, h => by
    unfold strsOf at h
    split at h
    · rename_i e; cases e
    · rename_i n l e
      cases e
      cases hb : strsOf l with
      | none => rw [hb] at h; cases h
      | some s' =>
        rw [hb] at h
        cases h
        rw [List.take_succ_cons, strsOf_cons, strsOf_take _ hb]; rfl
    · cases h
theorem strsOf_drop : ∀ {l : List AV} {xs : List (List UInt8)} (n : Nat), strsOf l = some xs → strsOf (l.drop n) = some (xs.drop n)
  | [], xs, n, h => by cases h; simp [strsOf]
  | c :: l, xs, 0, h => by simpa using h
  | c :: l, xs, n + 1, h => by
    unfold strsOf at h
    split at h
    · rename_i e; cases e
    · rename_i n l e
      cases e
      cases hb : strsOf l with
      | none => rw [hb] at h; cases h
      | some s' =>
        rw [hb] at h
        cases h
        simpa using strsOf_drop _ hb
    · cases h
theorem strsOf_write {l : List AV} {xs : List (List UInt8)} (h : strsOf l = some xs) {i : Nat} (hi : i < xs.length) (s : Ax.S) : strsOf (Ax.write l i [.str s]) = some (xs.take i ++ s.v :: xs.drop (i + 1)) := by
  unfold Ax.write
  have := strsOf_append (strsOf_append (strsOf_take i h) (show strsOf [AV.str s] = some [s.v] from rfl)) (strsOf_drop (i + 1) h)
  simpa using this
theorem strsOf_zeros : ∀ n : Nat, strsOf (listC n [AV.str (.lit [])]) = some (List.replicate n [])
  | 0 => rfl
  | n + 1 => by
    have : listC (n + 1) [AV.str (.lit [])] = .str (.lit []) :: listC n [AV.str (.lit [])] := rfl
    rw [this, strsOf_cons, strsOf_zeros n]; rfl

/-! slices.Equal. -/
def spl : List UInt8 → List (List UInt8)
  | [] => [[]]
  | c :: t => if c = 47 then [] :: spl t else match spl t with
    | [] => [[c]]
    | l :: ls => (c :: l) :: ls
theorem spl_none : ∀ {a : List UInt8}, (47 : UInt8) ∉ a → spl a = [a]
  | [], h => rfl
  | c :: t, h => by
    have h1 : ¬ c = 47 := fun e => h (by rw [e]; exact List.mem_cons_self ..)
    unfold spl
    rw [if_neg h1, spl_none (fun q => h (List.mem_cons_of_mem _ q))]
theorem spl_app : ∀ {a t : List UInt8}, (47 : UInt8) ∉ a → spl (a ++ 47 :: t) = a :: spl t
  | [], t, h => by rw [List.nil_append]; conv => lhs; unfold spl
                   rw [if_pos rfl]
  | c :: a, t, h => by
    have h1 : ¬ c = 47 := fun e => h (by rw [e]; exact List.mem_cons_self ..)
    rw [List.cons_append]
    conv => lhs; unfold spl
    rw [if_neg h1, spl_app (fun q => h (List.mem_cons_of_mem _ q))]
theorem spl_length : ∀ s : List UInt8, (spl s).length = s.count 47 + 1
  | [] => rfl
  | c :: t => by
    have ih := spl_length t
    unfold spl
    by_cases hc : c = 47
    · rw [if_pos hc, List.length_cons, ih, hc, List.count_cons_self]
    · rw [if_neg hc, List.count_cons_of_ne hc]
      cases ht : spl t with
      | nil => rw [ht] at ih; simp at ih
      | cons l ls => rw [ht] at ih; simpa using ih
theorem spl_ne (s : List UInt8) : spl s ≠ [] := fun h => by have := spl_length s; rw [h] at this; simp at this
theorem first47 : ∀ (s : List UInt8), (47 : UInt8) ∉ s ∨ ∃ a t, s = a ++ 47 :: t ∧ (47 : UInt8) ∉ a
  | [] => .inl (by simp)
  | c :: s => by
    by_cases hc : c = 47
    · exact .inr ⟨[], s, by rw [hc]; rfl, by simp⟩
    · rcases first47 s with h | ⟨a, t, rfl, ha⟩
      · exact .inl (by simp [h]; exact fun e => hc e.symm)
      · exact .inr ⟨c :: a, t, rfl, by simp [ha]; exact fun e => hc e.symm⟩
theorem index_no {s : List UInt8} {c : UInt8} (h : c ∉ s) : Lib.index s [c] = -1 := by
  induction s with
  | nil => rfl
  | cons b s ih =>
    have hb : (c == b) = false := beq_f (fun e => h (e ▸ List.mem_cons_self ..))
    unfold Lib.index
    rw [show List.isPrefixOf [c] (b :: s) = false by simp [List.isPrefixOf, hb], ih (fun q => h (List.mem_cons_of_mem _ q))]
    rfl
theorem index_at {s t : List UInt8} {c : UInt8} (h : c ∉ s) : Lib.index (s ++ c :: t) [c] = s.length := by
  induction s with
  | nil =>
    rw [List.nil_append]; unfold Lib.index
    rw [show List.isPrefixOf [c] (c :: t) = true by simp [List.isPrefixOf]]; rfl
  | cons b s ih =>
    have hb : (c == b) = false := beq_f (fun e => h (e ▸ List.mem_cons_self ..))
    rw [List.cons_append]
    unfold Lib.index
    rw [show List.isPrefixOf [c] (b :: (s ++ c :: t)) = false by simp [List.isPrefixOf, hb], ih (fun q => h (List.mem_cons_of_mem _ q))]
    have : ((s.length : Int) == -1) = false := beq_f (by omega)
    rw [this, List.length_cons]; simp
theorem sidx_no {s : List UInt8} {c : UInt8} (h : c ∉ s) (hl : s.length < 4294967281) : strIndex [.s s, .s [c]] = some [.i (-1)] := by
  unfold strIndex
  simp only [onS_c]
  rw [if_pos hl, index_no h]
theorem sidx_at {a t : List UInt8} {c : UInt8} (h : c ∉ a) (hl : (a ++ c :: t).length < 4294967281) : strIndex [.s (a ++ c :: t), .s [c]] = some [.i ((a.length : Nat) : Int)] := by
  unfold strIndex
  simp only [onS_c]
  rw [if_pos hl, index_at h]

theorem take_set {xs : List (List UInt8)} {i : Nat} (hi : i < xs.length) (v : List UInt8) : (xs.take i ++ v :: xs.drop (i + 1)).length = xs.length := by
  simp; omega

theorem genSplit_run {N : Nat} (hN : N < 4294967281) : ∀ (n i : Nat) (s : List UInt8) (cells : List AV) (dn : List (List UInt8)), i + n = N → dn.length = i → s.count 47 = n → s.length ≤ 8388608 → strsOf cells = some (dn ++ List.replicate (n + 1) []) →
    ∃ l, iter F_strings_genSplit_L0 [.s s, .s [47], .i 0, .i ((N : Nat) : Int), .n (N + 1), .n (N + 1), .i ((i : Nat) : Int), .l cells] = some [.n (N + 1), .l l] ∧ strsOf l = some (dn ++ spl s) := by
  intro n
  induction n with
  | zero =>
    intro i s cells dn hi hd hc hs hl
    have h10 : (47 : UInt8) ∉ s := List.count_eq_zero.1 hc
    have hx := strsOf_len hl
    rw [List.length_append, List.length_replicate] at hx
    have hw := strsOf_write hl (i := i) (by simp; omega) (.sym s)
    have hwl := strsOf_len hw
    have htk := strsOf_take (N + 1) hw
    have hwc := strsOf_closed htk
    have e3 : i64 ((i : Int) + 1) = ((N + 1 : Nat) : Int) := by rw [i64_in _ (by omega)]; omega
    have e4 : (Ax.write cells i [.str (.sym s)]).length = N + 1 := by
      rw [← hwl]
      have : (dn ++ List.replicate (0 + 1) ([] : List UInt8)).length = N + 1 := by simp; omega
      rw [take_set (by omega), this]
    have e5 : N + 1 ≤ (Ax.write cells i [.str (.sym s)]).length := by omega
    have e6 : ([AV.str (.sym s)]).length = 1 := rfl
    refine ⟨List.take (N + 1) (Ax.write cells i [.str (.sym s)]), iter_end ?_, ?_⟩
    · unfold F_strings_genSplit_L0
      have hcl : cells.length = N + 1 := by omega
      clear hw hwl htk hl hx
      simp (disch := omega) only [onI_c, onS_c, onB_c, onN_c, onL_c, Option.bind_some, Option.map_some, cond_true, cond_false, ↓onI_c, ↓onS_c, ↓onB_c, ↓onN_c, ↓onL_c, ↓Option.bind_some, ↓cond_true, ↓cond_false, decide_eq_true, decide_eq_false, Bool.not_true, Bool.not_false, Int.toNat_natCast, List.length_append, List.length_cons, List.length_nil, List.drop_zero, Nat.zero_add, Nat.add_zero, decT, decF, bneI_t, bneI_f, e3, e6, Nat.mul_one, hwc]
    · have htk' := strsOf_take (N + 1) hw
      rw [htk', spl_none h10]
      congr 1
      have e7 : List.take i (dn ++ List.replicate (0 + 1) ([] : List UInt8)) = dn := List.take_left' hd
      have e8 : List.drop (i + 1) (dn ++ List.replicate (0 + 1) ([] : List UInt8)) = [] := List.drop_of_length_le (by simp; omega)
      rw [e7, e8]
      exact List.take_of_length_le (by simp; omega)
  | succ n ih =>
    intro i s cells dn hi hd hc hs hl
    rcases first47 s with h10 | ⟨a, t, rfl, ha⟩
    · rw [List.count_eq_zero.2 h10] at hc; omega
    have hx := strsOf_len hl
    rw [List.length_append, List.length_replicate] at hx
    have hw := strsOf_write hl (i := i) (by simp; omega) (.sym a)
    have hwc := strsOf_closed hw
    have hlen : (a ++ 47 :: t).length = a.length + (t.length + 1) := by simp
    have hct : t.count 47 = n := by
      rw [List.count_append, List.count_eq_zero.2 ha, List.count_cons_self] at hc; omega
    have e3 : i64 ((i : Int) + 1) = ((i + 1 : Nat) : Int) := by rw [i64_in _ (by omega)]; omega
    have hidx := sidx_at (c := 47) (a := a) (t := t) ha (by omega)
    have e5 : List.take a.length (a ++ 47 :: t) = a := List.take_left
    have e6 : List.take ((a ++ 47 :: t).length - (a.length + 1)) (List.drop (a.length + 1) (a ++ 47 :: t)) = t := by
      have e : List.drop (a.length + 1) (a ++ 47 :: t) = t := by
        rw [show a ++ 47 :: t = (a ++ [47]) ++ t by simp]; exact List.drop_left' (by simp)
      rw [e, hlen]
      exact List.take_of_length_le (by omega)
    have e7 : i64 (((a.length : Nat) : Int) + 0) = ((a.length : Nat) : Int) := by rw [i64_in _ (by omega)]; omega
    have e8 : i64 (((a.length : Nat) : Int) + ((1 : Nat) : Int)) = ((a.length + 1 : Nat) : Int) := by rw [i64_in _ (by omega)]; omega
    have e9 : ([AV.str (.sym a)]).length = 1 := rfl
    have hl' : strsOf (Ax.write cells i [.str (.sym a)]) = some ((dn ++ [a]) ++ List.replicate (n + 1) []) := by
      rw [hw]
      congr 1
      subst hd
      rw [List.take_left' rfl, List.drop_append, List.drop_of_length_le (by omega), List.nil_append, show dn.length + 1 - dn.length = 1 by omega, List.replicate_succ]
      simp
      rfl
    obtain ⟨l, h1, h2⟩ := ih (i + 1) t _ (dn ++ [a]) (by omega) (by simp; omega) hct (by omega) hl'
    refine ⟨l, ?_, by rw [h2, spl_app ha]; simp⟩
    rw [iter_next (y := [.s t, .s [47], .i 0, .i ((N : Nat) : Int), .n (N + 1), .n (N + 1), .i ((i + 1 : Nat) : Int), .l (Ax.write cells i [.str (.sym a)])]), h1]
    unfold F_strings_genSplit_L0
    clear hl hw hl' h1 h2 ih
    have hle : a.length ≤ (a ++ 47 :: t).length := by omega
    have hle2 : a.length + 1 ≤ (a ++ 47 :: t).length := by omega
    generalize hg : (a ++ 47 :: t) = g at *
    simp (disch := omega) only [onI_c, onS_c, onB_c, onN_c, onL_c, Option.bind_some, Option.map_some, cond_true, cond_false, ↓onI_c, ↓onS_c, ↓onB_c, ↓onN_c, ↓onL_c, ↓Option.bind_some, ↓cond_true, ↓cond_false, decide_eq_true, decide_eq_false, Bool.not_true, Bool.not_false, Int.toNat_natCast, List.length_append, List.length_cons, List.length_nil, List.drop_zero, Nat.zero_add, Nat.add_zero, decT, decF, bneI_t, bneI_f, hidx, e3, e7, e8, e9, e5, e6, hwc]

theorem split_at {s : List UInt8} (hs : s.length ≤ 8388608) : ∃ l, F_strings_Split [.s s, .s [47]] = some [.n (spl s).length, .l l] ∧ strsOf l = some (spl s) := by
  have hc : s.count 47 ≤ s.length := List.count_le_length
  obtain ⟨l, h1, h2⟩ := genSplit_run (N := s.count 47) (by omega) (s.count 47) 0 s (listC (s.count 47 + 1) [AV.str (.lit [])]) [] (by omega) rfl rfl hs (by rw [strsOf_zeros]; rfl)
  refine ⟨l, ?_, h2⟩
  have hcnt : strCount1 [.s s, .s [47]] = some [.i ((s.count 47 : Nat) : Int)] := rfl
  have e1 : i64 (((s.length : Nat) : Int) + 1) = ((s.length + 1 : Nat) : Int) := by rw [i64_in _ (by omega)]; omega
  have e2 : i64 (((s.count 47 : Nat) : Int) + 1) = ((s.count 47 + 1 : Nat) : Int) := by rw [i64_in _ (by omega)]; omega
  have e3 : (if (((s.length + 1 : Nat) : Int)) < ((s.count 47 + 1 : Nat) : Int) then ((s.length + 1 : Nat) : Int) else ((s.count 47 + 1 : Nat) : Int)) = ((s.count 47 + 1 : Nat) : Int) := if_neg (by omega)
  have e4 : i64 (((s.count 47 + 1 : Nat) : Int) - 1) = ((s.count 47 : Nat) : Int) := by rw [i64_in _ (by omega)]; omega
  have e5 := strsOf_closed (strsOf_zeros (s.count 47 + 1))
  have e6 : (([47] : List UInt8) == []) = false := rfl
  have e7 : F_strings_genSplit [.s s, .s [47], .i 0, .i (-1)] = some [.n (s.count 47 + 1), .l l] := by
    rw [← h1]
    unfold F_strings_genSplit
    simp (disch := omega) only [onI_c, onS_c, onB_c, onN_c, onL_c, Option.bind_some, Option.map_some, cond_true, cond_false, ↓onI_c, ↓onS_c, ↓onB_c, ↓onN_c, ↓onL_c, ↓Option.bind_some, ↓cond_true, ↓cond_false, decide_eq_true, decide_eq_false, Bool.not_true, Bool.not_false, Int.toNat_natCast, List.length_append, List.length_cons, List.length_nil, List.drop_zero, Nat.zero_add, Nat.add_zero, decT, decF, bneI_t, bneI_f, e6, hcnt, e1, e2, e3, e4, e5]
    rfl
  unfold F_strings_Split
  simp (disch := omega) only [onI_c, onS_c, onB_c, onN_c, onL_c, Option.bind_some, Option.map_some, cond_true, cond_false, ↓onI_c, ↓onS_c, ↓onB_c, ↓onN_c, ↓onL_c, ↓Option.bind_some, ↓cond_true, ↓cond_false, decide_eq_true, decide_eq_false, Bool.not_true, Bool.not_false, Int.toNat_natCast, List.length_append, List.length_cons, List.length_nil, List.drop_zero, Nat.zero_add, Nat.add_zero, decT, decF, bneI_t, bneI_f, e7, spl_length]


theorem spl_parts : ∀ (n : Nat) (s : List UInt8), s.length ≤ n → spl s = Sp.parts 47 s := by
  intro n
  induction n with
  | zero => intro s h; have : s = [] := List.length_eq_zero_iff.1 (by omega); subst this; rfl
  | succ n ih =>
    intro s h
    rcases first47 s with h1 | ⟨a, t, rfl, ha⟩
    · rw [spl_none h1, parts_nosep (c := 47) (fun x hx e => h1 (by rw [e] at hx; exact hx))]
    · rw [spl_app ha, parts_sep (c := 47) (fun x hx e => ha (by rw [e] at hx; exact hx)), ih t (by simp at h; omega)]
theorem Split_at {s : List UInt8} (hs : s.length ≤ 8388608) : ∃ l, F_strings_Split [.s s, .s [47]] = some [.n (Sp.parts 47 s).length, .l l] ∧ strsOf l = some (Sp.parts 47 s) := by
  rw [← spl_parts _ s (Nat.le_refl _)]
  exact split_at hs
end Go.Proofs.YtgmmcmfnniaekaaDoor

namespace Go.Proofs.YtgmmcmfnniaekaaDoor
open Go.Ax
set_option linter.all false
set_option maxHeartbeats 4000000
set_option maxRecDepth 100000
attribute [local congr] cond_cong bind_cong onI_cong onB_cong onS_cong onN_cong onL_cong
theorem parts_no {c : UInt8} : ∀ (s : List UInt8), ∀ p ∈ Sp.parts c s, ∀ x ∈ p, x ≠ c
  | [], p, hp, x, hx => by simp [Sp.parts] at hp; subst hp; simp at hx
  | y :: s, p, hp, x, hx => by
    have ih := parts_no (c := c) s
    unfold Sp.parts at hp
    by_cases hy : y = c
    · rw [if_pos hy] at hp
      rcases List.mem_cons.1 hp with e | h
      · subst e; simp at hx
      · exact ih p h x hx
    · rw [if_neg hy] at hp
      cases hq : Sp.parts c s with
      | nil => exact absurd hq (Sp.parts_ne c s)
      | cons q qs =>
        rw [hq] at hp ih
        rcases List.mem_cons.1 hp with e | h
        · subst e
          rcases List.mem_cons.1 hx with e | h2
          · subst e; exact hy
          · exact ih q (List.mem_cons_self ..) x h2
        · exact ih p (List.mem_cons_of_mem _ h) x hx
theorem part_short {p : List UInt8} (h : Za.partOk p = true) : p.length ≤ 14 := by
  cases p with
  | nil => simp
  | cons x l =>
    simp only [Za.partOk, Bool.and_eq_true, decide_eq_true_eq] at h
    simp only [List.length_cons]; omega
theorem zone_part {p : List UInt8} (h : Za.partOk p = true) (hn : ∀ x ∈ p, x ≠ 47) : Zo.zoneV p = true := by
  have := part_short h
  unfold Zo.zoneV
  rw [parts_nosep hn, decide_eq_true (by omega)]; simp [h]
theorem zone_true {a : List UInt8} (h : (Sp.parts 47 a).all Za.partOk = true) (hl : a.length ≤ 60) : Zo.zoneV a = true := by
  unfold Zo.zoneV; rw [h, decide_eq_true hl]; rfl
theorem zone_two {a b : List UInt8} (ha : (Sp.parts 47 a).all Za.partOk = true) (hb : (Sp.parts 47 b).all Za.partOk = true) : Zo.zoneV ((a ++ [47]) ++ b) = decide (a.length + b.length ≤ 59) := by
  unfold Zo.zoneV
  rw [show (a ++ [47]) ++ b = a ++ 47 :: b by simp, parts_app, List.all_append, ha, hb, List.length_append, List.length_cons]
  by_cases h : a.length + b.length ≤ 59
  · rw [decide_eq_true h, decide_eq_true (by omega)]; rfl
  · rw [decide_eq_false h, decide_eq_false (by omega)]; rfl
theorem zone_end (a : List UInt8) : Zo.zoneV (a ++ [47]) = false := by
  unfold Zo.zoneV
  rw [show a ++ [47] = a ++ 47 :: ([] : List UInt8) from rfl, parts_app, List.all_append, show Sp.parts 47 ([] : List UInt8) = [[]] from rfl]
  simp [Za.partOk]
theorem zone_begin (a : List UInt8) : Zo.zoneV ([47] ++ a) = false := by
  unfold Zo.zoneV
  rw [show [47] ++ a = ([] : List UInt8) ++ 47 :: a from rfl, parts_app, List.all_append, show Sp.parts 47 ([] : List UInt8) = [[]] from rfl]
  simp [Za.partOk]
theorem zone_mid (a b : List UInt8) : Zo.zoneV ((a ++ [47, 47]) ++ b) = false := by
  unfold Zo.zoneV
  rw [show (a ++ [47, 47]) ++ b = a ++ 47 :: (([] : List UInt8) ++ 47 :: b) by simp, parts_app, parts_app, List.all_append, List.all_append, show Sp.parts 47 ([] : List UInt8) = [[]] from rfl]
  simp [Za.partOk]
theorem zone_A {l : List UInt8} (hl : l.length ≤ 20) : Zo.zoneV ([65, 47] ++ l) = Zo.zoneV l := by
  unfold Zo.zoneV
  rw [show [65, 47] ++ l = ([65] : List UInt8) ++ 47 :: l from rfl, parts_app, List.all_append, show Sp.parts 47 ([65] : List UInt8) = [[65]] from rfl, decide_eq_true (by simp; omega), decide_eq_true (by omega)]
  rw [show ([[65]] : List (List UInt8)).all Za.partOk = true by decide +kernel]; rfl
theorem rep_len (s : List UInt8) : ∀ n, (Lib.repeatL s n).length = s.length * n
  | 0 => rfl
  | n + 1 => by
    show (s ++ Lib.repeatL s n).length = _
    rw [List.length_append, rep_len s n, Nat.mul_succ]; omega
theorem rep_let {b : UInt8} (h : letB b = true) : ∀ n, (Lib.repeatL [b] n).all letB = true
  | 0 => rfl
  | n + 1 => by
    show ([b] ++ Lib.repeatL [b] n).all letB = true
    rw [List.all_append, rep_let h n]; simp [h]
theorem rep_parts (x : List UInt8) (hx : (Sp.parts 47 x).all Za.partOk = true) : ∀ n, (Sp.parts 47 (Lib.repeatL [97, 98, 99, 47] n ++ x)).all Za.partOk = true
  | 0 => hx
  | n + 1 => by
    show (Sp.parts 47 (([97, 98, 99, 47] ++ Lib.repeatL [97, 98, 99, 47] n) ++ x)).all Za.partOk = true
    rw [show ([97, 98, 99, 47] ++ Lib.repeatL [97, 98, 99, 47] n) ++ x = ([97, 98, 99] : List UInt8) ++ 47 :: (Lib.repeatL [97, 98, 99, 47] n ++ x) by simp, parts_app, List.all_append, rep_parts x hx n, show Sp.parts 47 ([97, 98, 99] : List UInt8) = [[97, 98, 99]] from rfl]
    decide +kernel
theorem L1_eq : F_law07_NameParts_L1 = F_law07_NameParts_L0 := rfl
theorem parts_tail {n : Nat} (hn : n < 256) {a b : List UInt8} (ha : a.length ≤ 59) (hb : b.length ≤ 59) {k : Nat} {cs : List AV} :
    F_law07_NameParts_L0 [.i ((n : Nat) : Int), .s a, .s b, .n k, .l cs, .i ((k : Nat) : Int), .i ((k : Nat) : Int)] = some (.inr [.b true]) := by
  have f20 : Int.tmod ((n : Nat) : Int) 20 = ((n % 20 : Nat) : Int) := by rw [tmod_nn (by omega)]; omega
  have f17 : Int.tmod ((n : Nat) : Int) 17 = ((n % 17 : Nat) : Int) := by rw [tmod_nn (by omega)]; omega
  have l20 : n % 20 < 20 := Nat.mod_lt _ (by omega)
  have l17 : n % 17 < 17 := Nat.mod_lt _ (by omega)
  generalize n % 20 = p at *
  generalize n % 17 = q at *
  have g20 : i64 ((p : Nat) : Int) = ((p : Nat) : Int) := i64_in _ (by omega)
  have g17 : i64 ((q : Nat) : Int) = ((q : Nat) : Int) := i64_in _ (by omega)
  have r1 : strRepeat [.s [120], .i ((p : Nat) : Int)] = some [.s (Lib.repeatL [120] p)] := by
    unfold strRepeat; rw [onS_c, onI_c, Int.toNat_natCast]; exact if_pos ⟨by omega, by omega, by simp; omega⟩
  have r2 : strRepeat [.s [97, 98, 99, 47], .i ((q : Nat) : Int)] = some [.s (Lib.repeatL [97, 98, 99, 47] q)] := by
    unfold strRepeat; rw [onS_c, onI_c, Int.toNat_natCast]; exact if_pos ⟨by omega, by omega, by simp; omega⟩
  have hl1 := rep_len [120] p
  have hl2 := rep_len [97, 98, 99, 47] q
  have hlet := rep_let (b := 120) (by decide +kernel) p
  have hpar := rep_parts [97, 98, 99, 100] (by decide +kernel) q
  generalize Lib.repeatL [120] p = x at *
  generalize Lib.repeatL [97, 98, 99, 47] q = y at *
  rw [show ([120] : List UInt8).length = 1 from rfl, Nat.one_mul] at hl1
  rw [show ([97, 98, 99, 47] : List UInt8).length = 4 from rfl] at hl2
  have z1 := zone_let hlet hl1
  have z2 := zone_A (l := x) (by omega)
  have z3 : Zo.zoneV (y ++ [97, 98, 99, 100]) = decide (4 * q + 4 ≤ 60) := by
    unfold Zo.zoneV
    rw [hpar, List.length_append, hl2, Bool.and_true]; rfl
  rw [z1] at z2
  have n1 := nameZone_at (s := x) (by omega)
  have n2 := nameZone_at (s := [65, 47] ++ x) (by simp; omega)
  have n3 := nameZone_at (s := y ++ [97, 98, 99, 100]) (by simp; omega)
  have n4 := nameZone_at (s := a ++ [47]) (by simp; omega)
  have n5 := nameZone_at (s := [47] ++ a) (by simp; omega)
  have n6 := nameZone_at (s := (a ++ [47, 47]) ++ b) (by simp; omega)
  rw [z1] at n1
  rw [z2] at n2
  rw [z3] at n3
  rw [zone_end] at n4
  rw [zone_begin] at n5
  rw [zone_mid] at n6
  have hk : ¬ ((k : Nat) : Int) < ((k : Nat) : Int) := by omega
  have hw : F_law07_works [] = some [.b true] := rfl
  have m1 : (2 + x.length) ≤ 9223372036854775807 := by omega
  have m2 : (y.length + 4) ≤ 9223372036854775807 := by omega
  have m3 : (a.length + 1) ≤ 9223372036854775807 := by omega
  have m4 : (1 + a.length) ≤ 9223372036854775807 := by omega
  have m5 : (a.length + 2) ≤ 9223372036854775807 := by omega
  have m6 : ((a ++ ([47, 47] : List UInt8)).length + b.length) ≤ 9223372036854775807 := by simp; omega
  have m7 : (((y ++ ([97, 98, 99, 100] : List UInt8)).length : Nat) : Int) = ((4 * q + 4 : Nat) : Int) := by rw [List.length_append, hl2]; rfl
  have d1 : decide ((1 : Int) ≤ ((p : Nat) : Int)) = decide (1 ≤ p) := by by_cases q : 1 ≤ p <;> simp [q] <;> omega
  have d2 : decide (((p : Nat) : Int) ≤ 14) = decide (p ≤ 14) := by by_cases q : p ≤ 14 <;> simp [q] <;> omega
  have d3 : decide (((4 * q + 4 : Nat) : Int) ≤ 60) = decide (4 * q + 4 ≤ 60) := by by_cases h : 4 * q + 4 ≤ 60 <;> simp [h] <;> omega
  clear hlet hpar z1 z2 z3 hl1 hl2
  unfold F_law07_NameParts_L0
  cases c1 : decide (1 ≤ p) <;> cases c2 : decide (p ≤ 14) <;> cases c3 : decide (4 * q + 4 ≤ 60) <;>
    simp only [hk, decide_false, f20, f17, g20, g17, r1, r2, n1, n2, n3, n4, n5, n6, hw, m1, m2, m3, m4, m5, m6, m7, d1, d2, d3, c1, c2, c3, decide_true, onI_c, onS_c, onB_c, onN_c, onL_c, Option.bind_some, Option.map_some, cond_true, cond_false, ↓onI_c, ↓onS_c, ↓onB_c, ↓onN_c, ↓onL_c, ↓Option.bind_some, ↓cond_true, ↓cond_false, Bool.and_true, Bool.true_and, Bool.and_false, Bool.false_and, beq_self_eq_true, ↓beq_self_eq_true, Bool.not_false, Bool.not_true, Bool.and_self] <;> rfl
theorem parts_loop {n : Nat} (hn : n < 256) {a b : List UInt8} (ha : a.length ≤ 59) (hb : b.length ≤ 59) {cs : List AV} (hs : strsOf cs = some (Sp.parts 47 a)) (hp : (Sp.parts 47 a).all Za.partOk = true) (hk : (Sp.parts 47 a).length ≤ 1000) : ∀ (m i : Nat), i + m = (Sp.parts 47 a).length →
    iter F_law07_NameParts_L0 [.i ((n : Nat) : Int), .s a, .s b, .n (Sp.parts 47 a).length, .l cs, .i (((Sp.parts 47 a).length : Nat) : Int), .i ((i : Nat) : Int)] = some [.b true]
  | 0, i, h => by
    obtain rfl : i = (Sp.parts 47 a).length := by omega
    exact iter_end (parts_tail hn ha hb)
  | m + 1, i, h => by
    have hi : i < (Sp.parts 47 a).length := by omega
    have hm : (Sp.parts 47 a).getD i [] ∈ Sp.parts 47 a := by
      simp only [List.getD_eq_getElem?_getD, List.getElem?_eq_getElem hi, Option.getD_some]
      exact List.getElem_mem hi
    have hg := strsOf_get hs hi
    have hok := List.all_eq_true.1 hp _ hm
    have hz := zone_part hok (parts_no a _ hm)
    have hsh := part_short hok
    have hz2 := nameZone_at (s := (Sp.parts 47 a).getD i []) (by omega)
    rw [hz] at hz2
    have e4 : i64 ((i : Int) + 1) = ((i + 1 : Nat) : Int) := by rw [i64_in _ (by omega)]; omega
    have h1 : ((i : Nat) : Int) < (((Sp.parts 47 a).length : Nat) : Int) := by omega
    have h0 : (0 : Int) ≤ ((i : Nat) : Int) := by omega
    refine (iter_next (y := [.i ((n : Nat) : Int), .s a, .s b, .n (Sp.parts 47 a).length, .l cs, .i (((Sp.parts 47 a).length : Nat) : Int), .i ((i + 1 : Nat) : Int)]) ?_).trans (parts_loop hn ha hb hs hp hk m (i + 1) (by omega))
    generalize (Sp.parts 47 a).getD i [] = x at *
    generalize (Sp.parts 47 a).length = k at *
    clear hs hp
    unfold F_law07_NameParts_L0
    simp only [h1, h0, and_self, hg, hz2, e4, Int.toNat_natCast, decide_true, onI_c, onS_c, onB_c, onN_c, onL_c, Option.bind_some, cond_true, cond_false, ↓onB_c, ↓Option.bind_some, ↓cond_true, ↓cond_false, Bool.not_true]
theorem lawP_NameParts {dats : List Dat} (h : DatOk tau [.slice 30, .slice 30, .int .u8] dats) : F_law07_NameParts dats = some [.b true] := by
  obtain ⟨n1, c1, r, rfl, hc1, n2, c2, r2, rfl, hc2, a, r3, rfl, ha, rfl⟩ := h
  obtain ⟨ds, hd, rfl⟩ := rows_of (e2 := 5) (by kernel_rfl) (by kernel_rfl) hc1
  obtain ⟨es, he, rfl⟩ := rows_of (e2 := 5) (by kernel_rfl) (by kernel_rfl) hc2
  have ha := wf_u8 ha
  obtain ⟨m, rfl⟩ : ∃ m : Nat, a = m := ⟨a.toNat, by omega⟩
  obtain ⟨z, hz, hzp, hzl, hzn⟩ := Zone_made hd
  obtain ⟨y, hy, hyp, hyl, hyn⟩ := Zone_made he
  obtain ⟨l, hS, hs⟩ := Split_at (s := z) (by omega)
  have hpl := Sp.parts_len 47 z
  have hloop := parts_loop (n := m) (b := y) (by omega) hzl hyl hs hzp (by omega) (Sp.parts 47 z).length 0 (Nat.zero_add _)
  rw [show ((0 : Nat) : Int) = 0 from rfl] at hloop
  have q1 := nameZone_at (s := z) (by omega)
  have q2 := nameZone_at (s := y) (by omega)
  have q3 := nameZone_at (s := (z ++ [47]) ++ y) (by simp; omega)
  rw [zone_true hzp (by omega)] at q1
  rw [zone_true hyp (by omega)] at q2
  rw [zone_two hzp hyp] at q3
  have e1 : i64 (((z.length : Nat) : Int) + ((y.length : Nat) : Int)) = ((z.length + y.length : Nat) : Int) := by rw [i64_in _ (by omega)]; omega
  have d1 : decide (((z.length + y.length : Nat) : Int) ≤ 59) = decide (z.length + y.length ≤ 59) := by by_cases h : z.length + y.length ≤ 59 <;> simp [h] <;> omega
  have m1 : (z.length + 1) ≤ 9223372036854775807 := by omega
  have m2 : ((z ++ ([47] : List UInt8)).length + y.length) ≤ 9223372036854775807 := by simp; omega
  clear hzp hyp hs hd he hc1 hc2
  unfold F_law07_NameParts
  rw [L1_eq]
  cases c1 : decide (z.length + y.length ≤ 59) <;>
    simp only [hz, hy, q1, q2, q3, e1, d1, c1, m1, m2, hS, hloop, decide_true, onI_c, onS_c, onB_c, onN_c, onL_c, Option.bind_some, cond_true, cond_false, ↓onI_c, ↓onS_c, ↓onB_c, ↓onN_c, ↓onL_c, ↓Option.bind_some, ↓cond_true, ↓cond_false, Bool.not_true, Bool.not_false, beq_self_eq_true, ↓beq_self_eq_true]
end Go.Proofs.YtgmmcmfnniaekaaDoor
