/-
  Drafts: fields by numbers; what was made is read again.
-/
import Derived.Test.YtgehedalhppehaaDoorMFlalex
namespace Go.Proofs.YtgehedalhppehaaDoor
open Go.Ax Go.Lib
set_option linter.all false
set_option maxHeartbeats 4000000
set_option maxRecDepth 100000
attribute [local congr] cond_cong bind_cong onI_cong onB_cong onS_cong onN_cong onL_cong

/-- Rows of rows of bytes. -/
def Row (c : List AV) (b : List UInt8) : Prop := c.length = b.length ∧ ∀ j, j < b.length → asI .u8 c[j]? = some (((b.getD j 0).toNat : Nat) : Int)
def Rows (cells : List AV) (ds : List (List UInt8)) : Prop := cells.length = ds.length ∧ ∀ i, i < ds.length → ∃ c, asL cells[i]? = some ((ds.getD i []).length, c) ∧ Row c (ds.getD i [])
theorem row_of {τ : Tys} {e n : Nat} {c : List AV} (ht : tks τ 12 e = some [.int .u8]) (h : CellOk τ (.slice e) (.seq (.sym n) c)) : ∃ b, Row c b ∧ n = b.length := by
  cases h with
  | slice he hp hl hn h =>
    rw [ht] at he
    cases he
    have hl : c.length = n := by simpa using hl
    have key : ∀ (c : List AV), (∀ (i : Nat) (x : AV), c[i]? = some x → CellOk τ (.int .u8) x) → ∃ b, Row c b := by
      intro c
      induction c with
      | nil => intro _; exact ⟨[], rfl, fun j hj => by simp at hj⟩
      | cons x c ih =>
        intro hc
        obtain ⟨b, hb1, hb2⟩ := ih (fun i y q => hc (i + 1) y q)
        have h0 := hc 0 x rfl
        cases h0 with | int hw =>
        rename_i v
        have hv := wf_u8 hw
        refine ⟨UInt8.ofNat v.toNat :: b, by simp [hb1], fun j hj => ?_⟩
        cases j with
        | zero =>
          show some v = _
          congr 1
          rw [List.getD_cons_zero, UInt8.toNat_ofNat']
          omega
        | succ j => simpa using hb2 j (by simpa using hj)
    obtain ⟨b, hb⟩ := key c (fun i x q => h i x (.int .u8) q (by simp [Nat.mod_one]))
    exact ⟨b, hb, by rw [← hb.1, hl]⟩
theorem rows_of {τ : Tys} {e e2 n : Nat} {c : List AV} (ht : tks τ 12 e = some [.slice e2]) (ht2 : tks τ 12 e2 = some [.int .u8]) (h : CellOk τ (.slice e) (.seq (.sym n) c)) : ∃ ds, Rows c ds ∧ n = ds.length := by
  cases h with
  | slice he hp hl hn h =>
    rw [ht] at he
    cases he
    have hl : c.length = n := by simpa using hl
    have key : ∀ (c : List AV), (∀ (i : Nat) (x : AV), c[i]? = some x → CellOk τ (.slice e2) x) → ∃ ds, Rows c ds := by
      intro c
      induction c with
      | nil => intro _; exact ⟨[], rfl, fun j hj => by simp at hj⟩
      | cons x c ih =>
        intro hc
        obtain ⟨ds, hd1, hd2⟩ := ih (fun i y q => hc (i + 1) y q)
        have h0 := hc 0 x rfl
        have h0' := h0
        cases h0 with | slice _ _ _ _ _ =>
        obtain ⟨b, hb, hbn⟩ := row_of ht2 h0'
        refine ⟨b :: ds, by simp [hd1], fun i hi => ?_⟩
        cases i with
        | zero => exact ⟨_, by rw [List.getD_cons_zero, ← hbn]; rfl, hb⟩
        | succ i => simpa using hd2 i (by simpa using hi)
    obtain ⟨ds, hd⟩ := key c (fun i x q => h i x (.slice e2) q (by simp [Nat.mod_one]))
    exact ⟨ds, hd, by rw [← hd.1, hl]⟩
theorem Row.take {c b} (h : Row c b) (n : Nat) : Row (c.take n) (b.take n) := by
  refine ⟨by simp [h.1], fun j hj => ?_⟩
  rw [List.length_take] at hj
  have := h.2 j (by omega)
  rw [List.getElem?_take, if_pos (by omega), this]
  congr 3
  simp only [List.getD_eq_getElem?_getD]
  rw [List.getElem?_take, if_pos (by omega)]
theorem Rows.take {c ds} (h : Rows c ds) (n : Nat) : Rows (c.take n) (ds.take n) := by
  refine ⟨by simp [h.1], fun j hj => ?_⟩
  rw [List.length_take] at hj
  obtain ⟨r, h1, h2⟩ := h.2 j (by omega)
  have e : (ds.take n).getD j [] = ds.getD j [] := by
    simp only [List.getD_eq_getElem?_getD]
    rw [List.getElem?_take, if_pos (by omega)]
  exact ⟨r, by rw [List.getElem?_take, if_pos (by omega), e, h1], by rw [e]; exact h2⟩

def lets : List UInt8 := [97, 90, 48, 57, 32, 35, 45, 43, 47, 37, 58, 62, 61, 60, 46, 95, 39, 92, 126, 33]
def let1 (c : UInt8) : UInt8 := lets.getD (c.toNat % 20) 0
def madeV (ds : List (List UInt8)) : List (List UInt8) := (ds.take 12).map fun b => (b.take 12).map let1
theorem let1_ok (c : UInt8) : 32 ≤ (let1 c).toNat ∧ (let1 c).toNat ≤ 126 ∧ (let1 c).toNat ≠ 34 := by
  unfold let1
  have h : c.toNat % 20 < 20 := Nat.mod_lt _ (by omega)
  generalize c.toNat % 20 = k at h
  have hk : k = 0 ∨ k = 1 ∨ k = 2 ∨ k = 3 ∨ k = 4 ∨ k = 5 ∨ k = 6 ∨ k = 7 ∨ k = 8 ∨ k = 9 ∨ k = 10 ∨ k = 11 ∨ k = 12 ∨ k = 13 ∨ k = 14 ∨ k = 15 ∨ k = 16 ∨ k = 17 ∨ k = 18 ∨ k = 19 := by omega
  rcases hk with rfl | rfl | rfl | rfl | rfl | rfl | rfl | rfl | rfl | rfl | rfl | rfl | rfl | rfl | rfl | rfl | rfl | rfl | rfl | rfl <;> decide
theorem let1_at (c : UInt8) : List.take 1 (List.take (20 - c.toNat % 20) (List.drop (c.toNat % 20) lets)) = [let1 c] := by
  unfold let1
  have h : c.toNat % 20 < 20 := Nat.mod_lt _ (by omega)
  generalize c.toNat % 20 = k at h
  have hk : k = 0 ∨ k = 1 ∨ k = 2 ∨ k = 3 ∨ k = 4 ∨ k = 5 ∨ k = 6 ∨ k = 7 ∨ k = 8 ∨ k = 9 ∨ k = 10 ∨ k = 11 ∨ k = 12 ∨ k = 13 ∨ k = 14 ∨ k = 15 ∨ k = 16 ∨ k = 17 ∨ k = 18 ∨ k = 19 := by omega
  rcases hk with rfl | rfl | rfl | rfl | rfl | rfl | rfl | rfl | rfl | rfl | rfl | rfl | rfl | rfl | rfl | rfl | rfl | rfl | rfl | rfl <;> rfl
theorem made1_run (on vn : Nat) (vl : List AV) (v2 : Int) (v3 : Nat) (hv3 : v3 ≤ 1000) {out : List (List UInt8)} {co : List AV} (ho : strsOf co = some out) (hon : on = out.length) (hout : out.length ≤ 1000) {c : List AV} {b : List UInt8} (hr : Row c b) (hb : b.length ≤ 12) : ∀ (m j : Nat) (s : List UInt8), j + m = b.length → s = (b.take j).map let1 →
    iter F__law05_Draft__Made_L1 [.n on, .s s, .n vn, .l vl, .i v2, .i ((v3 : Nat) : Int), .n b.length, .l c, .i ((b.length : Nat) : Int), .i ((j : Nat) : Int), .l co] =
      some (.inl [.n (on + 1), .n vn, .l vl, .i v2, .i ((v3 + 1 : Nat) : Int), .l (co ++ [.str (.sym (b.map let1))])]) := by
  have hoc := strsOf_closed ho
  have hol := strsOf_len ho
  intro m
  induction m with
  | zero =>
    intro j s hj hs
    rw [List.take_of_length_le (by omega)] at hs
    subst hs
    have ho2 := strsOf_closed (strsOf_append ho (show strsOf [AV.str (.sym (b.map let1))] = some [b.map let1] from rfl))
    have hi : i64 ((v3 : Int) + 1) = ((v3 + 1 : Nat) : Int) := by rw [i64_in _ (by omega)]; omega
    refine iter_end ?_
    unfold F__law05_Draft__Made_L1
    clear ho hr
    simp (disch := omega) only [onI_c, onS_c, onB_c, onN_c, onL_c, Option.bind_some, Option.map_some, cond_true, cond_false, ↓onI_c, ↓onS_c, ↓onB_c, ↓onN_c, ↓onL_c, ↓Option.bind_some, ↓cond_true, ↓cond_false, decide_eq_true, decide_eq_false, Bool.not_true, Bool.not_false, Int.toNat_natCast, List.length_append, List.length_cons, List.length_nil, List.drop_zero, Nat.zero_add, Nat.add_zero, decT, decF, bneI_t, bneI_f, ho2, hi]
  | succ m ih =>
    intro j s hj hs
    have hlt : j < b.length := by omega
    have g1 := hr.2 j hlt
    have hg : b.getD j 0 = b[j] := by simp [List.getD, hlt]
    have hsl : s.length = j := by rw [hs]; simp; omega
    generalize hd : b.getD j 0 = d at *
    have hdl : d.toNat < 256 := d.toNat_lt
    have g4 : i64 ((j : Int) + 1) = ((j + 1 : Nat) : Int) := by rw [i64_in _ (by omega)]; omega
    have e1 : i64 ((d.toNat : Nat) : Int) = ((d.toNat : Nat) : Int) := i64_in _ (by omega)
    have e2 : Int.tmod ((d.toNat : Nat) : Int) 20 = ((d.toNat % 20 : Nat) : Int) := by rw [tmod_nn (by omega)]; omega
    have e3 := let1_at d
    have e6 : (List.take (20 - d.toNat % 20) (List.drop (d.toNat % 20) lets)).length = 20 - d.toNat % 20 := by simp [lets]
    have hk : d.toNat % 20 < 20 := Nat.mod_lt _ (by omega)
    unfold lets at e3 e6
    rw [iter_next (y := [.n on, .s (s ++ [let1 d]), .n vn, .l vl, .i v2, .i ((v3 : Nat) : Int), .n b.length, .l c, .i ((b.length : Nat) : Int), .i ((j + 1 : Nat) : Int), .l co]), ih (j + 1) _ (by omega) (by
      rw [hs, List.take_succ, List.getElem?_eq_getElem hlt]
      simp [← hg, hd])]
    unfold F__law05_Draft__Made_L1
    clear ho hr ih
    generalize d.toNat % 20 = K at *
    simp (disch := omega) only [onI_c, onS_c, onB_c, onN_c, onL_c, Option.bind_some, Option.map_some, cond_true, cond_false, ↓onI_c, ↓onS_c, ↓onB_c, ↓onN_c, ↓onL_c, ↓Option.bind_some, ↓cond_true, ↓cond_false, decide_eq_true, decide_eq_false, Bool.not_true, Bool.not_false, Int.toNat_natCast, List.length_append, List.length_cons, List.length_nil, List.drop_zero, Nat.zero_add, Nat.add_zero, decT, decF, bneI_t, bneI_f, g1, g4, e1, e2, e3, e6, hoc]
theorem made_run {cells : List AV} {ds : List (List UInt8)} (hr : Rows cells ds) (hn : ds.length ≤ 12) : ∀ (m i : Nat) (out : List (List UInt8)) (co : List AV), i + m = ds.length → strsOf co = some out → out = (ds.take i).map (fun b => (b.take 12).map let1) →
    ∃ l, iter F__law05_Draft__Made_L0 [.n out.length, .n ds.length, .l cells, .i ((ds.length : Nat) : Int), .i ((i : Nat) : Int), .l co] = some [.n ds.length, .l l] ∧ strsOf l = some (ds.map (fun b => (b.take 12).map let1)) := by
  intro m
  induction m with
  | zero =>
    intro i out co hi ho he
    rw [List.take_of_length_le (by omega)] at he
    have hoc := strsOf_closed ho
    have hol := strsOf_len ho
    have hout : out.length = ds.length := by rw [he]; simp
    refine ⟨co, iter_end ?_, by rw [ho, he]⟩
    unfold F__law05_Draft__Made_L0
    clear ho hr he
    simp (disch := omega) only [onI_c, onS_c, onB_c, onN_c, onL_c, Option.bind_some, Option.map_some, cond_true, cond_false, ↓onI_c, ↓onS_c, ↓onB_c, ↓onN_c, ↓onL_c, ↓Option.bind_some, ↓cond_true, ↓cond_false, decide_eq_true, decide_eq_false, Bool.not_true, Bool.not_false, Int.toNat_natCast, List.length_append, List.length_cons, List.length_nil, List.drop_zero, Nat.zero_add, Nat.add_zero, decT, decF, bneI_t, bneI_f, Nat.mul_one, hoc]
    rw [hout]
  | succ m ih =>
    intro i out co hi ho he
    have hlt : i < ds.length := by omega
    have hoc := strsOf_closed ho
    have hol := strsOf_len ho
    have hout : out.length = i := by rw [he]; simp; omega
    obtain ⟨c, g1, g2⟩ := hr.2 i hlt
    have hdi : ds.getD i [] = ds[i] := by simp [List.getD, hlt]
    generalize hd : ds.getD i [] = b at *
    have hb12 := g2.take 12
    have hbl : (b.take 12).length ≤ 12 := by simp; omega
    have k := made1_run out.length ds.length cells ((ds.length : Nat) : Int) i (by omega) ho rfl (by omega) hb12 hbl (b.take 12).length 0 [] (by omega) rfl
    have mn : (if 12 < ((b.length : Nat) : Int) then 12 else ((b.length : Nat) : Int)) = (((b.take 12).length : Nat) : Int) := by
      rw [List.length_take]
      by_cases h : 12 < b.length
      · rw [if_pos (by omega)]; omega
      · rw [if_neg (by omega)]; omega
    have hbt : (b.take 12).length ≤ b.length := by simp; omega
    have hcl : c.length = b.length := g2.1
    have tk : List.take (b.take 12).length c = c.take 12 := by
      rw [List.length_take]
      by_cases h : 12 ≤ b.length
      · rw [Nat.min_eq_left h]
      · rw [Nat.min_eq_right (by omega), List.take_of_length_le (by omega), List.take_of_length_le (by omega)]
    have tks : ds.take (i + 1) = ds.take i ++ [b] := by rw [List.take_succ, List.getElem?_eq_getElem hlt, ← hdi]; rfl
    obtain ⟨l, h1, h2⟩ := ih (i + 1) (out ++ [(b.take 12).map let1]) (co ++ [.str (.sym ((b.take 12).map let1))]) (by omega) (strsOf_append ho rfl) (by rw [he, tks]; simp)
    refine ⟨l, ?_, h2⟩
    rw [List.length_append, List.length_singleton] at h1
    rw [iter_next (y := [.n (out.length + 1), .n ds.length, .l cells, .i ((ds.length : Nat) : Int), .i ((i + 1 : Nat) : Int), .l (co ++ [.str (.sym ((b.take 12).map let1))])]), h1]
    rw [← k]
    unfold F__law05_Draft__Made_L0
    clear ho hr ih he h1 h2 k hb12 g2
    generalize hB : b.take 12 = b12 at *
    simp (disch := omega) only [onI_c, onS_c, onB_c, onN_c, onL_c, Option.bind_some, Option.map_some, cond_true, cond_false, ↓onI_c, ↓onS_c, ↓onB_c, ↓onN_c, ↓onL_c, ↓Option.bind_some, ↓cond_true, ↓cond_false, decide_eq_true, decide_eq_false, Bool.not_true, Bool.not_false, Int.toNat_natCast, List.length_append, List.length_cons, List.length_nil, List.drop_zero, Nat.zero_add, Nat.add_zero, decT, decF, bneI_t, bneI_f, g1, mn, tk, hoc]
    rfl
theorem made_at {cells : List AV} {ds : List (List UInt8)} (hr : Rows cells ds) {n : Nat} (hn : n = ds.length) : ∃ l, F__law05_Draft__Made [.n n, .l cells] = some [.n (madeV ds).length, .l l] ∧ strsOf l = some (madeV ds) := by
  subst hn
  have mn : (if 12 < ((ds.length : Nat) : Int) then 12 else ((ds.length : Nat) : Int)) = (((ds.take 12).length : Nat) : Int) := by
    rw [List.length_take]
    by_cases h : 12 < ds.length
    · rw [if_pos (by omega)]; omega
    · rw [if_neg (by omega)]; omega
  have hcl := hr.1
  have tk : List.take (ds.take 12).length cells = cells.take 12 := by
    rw [List.length_take]
    by_cases h : 12 ≤ ds.length
    · rw [Nat.min_eq_left h]
    · rw [Nat.min_eq_right (by omega), List.take_of_length_le (by omega), List.take_of_length_le (by omega)]
  have hlt : (ds.take 12).length ≤ ds.length := by simp; omega
  obtain ⟨l, h1, h2⟩ := made_run (hr.take 12) (by simp; omega) (ds.take 12).length 0 [] [] (by omega) rfl rfl
  have hm : (madeV ds).length = (ds.take 12).length := by unfold madeV; simp
  refine ⟨l, ?_, h2⟩
  rw [hm, ← h1]
  unfold F__law05_Draft__Made
  clear h1 h2 hm
  generalize ds.take 12 = d12 at *
  simp (disch := omega) only [onI_c, onS_c, onB_c, onN_c, onL_c, Option.bind_some, Option.map_some, cond_true, cond_false, ↓onI_c, ↓onS_c, ↓onB_c, ↓onN_c, ↓onL_c, ↓Option.bind_some, ↓cond_true, ↓cond_false, decide_eq_true, decide_eq_false, Bool.not_true, Bool.not_false, Int.toNat_natCast, List.length_append, List.length_cons, List.length_nil, List.drop_zero, Nat.zero_add, Nat.add_zero, decT, decF, bneI_t, bneI_f, mn, tk]
  rfl
theorem madeV_ok (ds : List (List UInt8)) : (madeV ds).length ≤ 12 ∧ (∀ x ∈ madeV ds, x.length ≤ 12) ∧ (madeV ds).all wrB = true := by
  unfold madeV
  refine ⟨by simp; omega, fun x hx => ?_, List.all_eq_true.2 fun x hx => ?_⟩
  · obtain ⟨b, _, rfl⟩ := List.mem_map.1 hx
    simp; omega
  · obtain ⟨b, _, rfl⟩ := List.mem_map.1 hx
    unfold wrB
    rw [List.all_eq_true]
    intro c hc
    obtain ⟨d, _, rfl⟩ := List.mem_map.1 hc
    exact decide_eq_true (let1_ok d)

theorem contains_at {x : List UInt8} {c : UInt8} (hl : x.length < 4294967281) : F_strings_Contains [.s x, .s [c]] = some [.b (decide (c ∈ x))] := by
  have key : ∀ x : List UInt8, c ∈ x → ∃ a t, x = a ++ c :: t ∧ c ∉ a := by
    intro x
    induction x with
    | nil => intro h; simp at h
    | cons b x ih =>
      intro h
      by_cases hb : b = c
      · exact ⟨[], x, by rw [hb]; rfl, by simp⟩
      · rcases List.mem_cons.1 h with h | h
        · exact absurd h.symm hb
        · obtain ⟨a, t, rfl, ha⟩ := ih h
          exact ⟨b :: a, t, rfl, by simp [ha]; exact fun e => hb e.symm⟩
  unfold F_strings_Contains
  by_cases h : c ∈ x
  · obtain ⟨a, t, rfl, ha⟩ := key x h
    have e := sidx_at (t := t) ha hl
    rw [decide_eq_true h]
    clear h
    simp (disch := omega) only [onI_c, onS_c, onB_c, onN_c, onL_c, Option.bind_some, Option.map_some, cond_true, cond_false, ↓onI_c, ↓onS_c, ↓onB_c, ↓onN_c, ↓onL_c, ↓Option.bind_some, ↓cond_true, ↓cond_false, decide_eq_true, decide_eq_false, Bool.not_true, Bool.not_false, Int.toNat_natCast, List.length_append, List.length_cons, List.length_nil, List.drop_zero, Nat.zero_add, Nat.add_zero, decT, decF, bneI_t, bneI_f, e]
  · have e := sidx_no h hl
    rw [decide_eq_false h]
    clear h
    simp (disch := omega) only [onI_c, onS_c, onB_c, onN_c, onL_c, Option.bind_some, Option.map_some, cond_true, cond_false, ↓onI_c, ↓onS_c, ↓onB_c, ↓onN_c, ↓onL_c, ↓Option.bind_some, ↓cond_true, ↓cond_false, decide_eq_true, decide_eq_false, Bool.not_true, Bool.not_false, Int.toNat_natCast, List.length_append, List.length_cons, List.length_nil, List.drop_zero, Nat.zero_add, Nat.add_zero, decT, decF, bneI_t, bneI_f, e]
theorem bare_mem {x : List UInt8} (hx : x ≠ []) : bareB x = (!decide ((32 : UInt8) ∈ x) && !decide ((35 : UInt8) ∈ x)) := by
  unfold bareB
  rw [beq_f hx, Bool.not_false, Bool.true_and, Bool.eq_iff_iff, List.all_eq_true]
  simp only [decide_eq_true_eq, Bool.and_eq_true, Bool.not_eq_true', decide_eq_false_iff_not]
  constructor
  · intro h
    exact ⟨fun q => (h 32 q).1 rfl, fun q => (h 35 q).2 rfl⟩
  · rintro ⟨h1, h2⟩ c hc
    exact ⟨fun e => h1 (by rw [show (32 : UInt8) = c from (UInt8.toNat_inj.1 (by rw [e]; rfl))]; exact hc), fun e => h2 (by rw [show (35 : UInt8) = c from (UInt8.toNat_inj.1 (by rw [e]; rfl))]; exact hc)⟩
theorem one_at {x : List UInt8} (hw : wrB x = true) (hl : x.length ≤ 12) : F_lexeme_Join [.n 1, .l [AV.str (.sym x)]] = some [.s (item x), .i 0] := by
  have j := join_at (show strsOf [AV.str (.sym x)] = some [x] from rfl) (by simp) (by simp; omega) (n := 1) rfl
  have e : joinV [x] = (item x, 0) := by
    unfold joinV
    rw [show ([x] : List (List UInt8)).all wrB = true by simp [hw], if_pos rfl]
    have : jn true [x] = item x := by simp [jn]
    have hil := item_length x
    rw [this, if_neg (by omega)]
  rw [e] at j
  exact j
theorem back_tail {xs : List (List UInt8)} {l : List AV} (h : strsOf l = some xs) (hN : xs.length ≤ 12) (hb : ∀ x ∈ xs, x.length ≤ 12) (hall : xs.all wrB = true) : ∀ (m i : Nat), i + m = xs.length →
    iter F_law05_LexemeBack_L0 [.n xs.length, .l l, .i ((xs.length : Nat) : Int), .i ((i : Nat) : Int)] = some [.b true] := by
  have hw : F_law05_works [] = some [.b true] := rfl
  intro m
  induction m with
  | zero =>
    intro i hi
    refine iter_end ?_
    unfold F_law05_LexemeBack_L0
    clear h
    simp (disch := omega) only [onI_c, onS_c, onB_c, onN_c, onL_c, Option.bind_some, Option.map_some, cond_true, cond_false, ↓onI_c, ↓onS_c, ↓onB_c, ↓onN_c, ↓onL_c, ↓Option.bind_some, ↓cond_true, ↓cond_false, decide_eq_true, decide_eq_false, Bool.not_true, Bool.not_false, Int.toNat_natCast, List.length_append, List.length_cons, List.length_nil, List.drop_zero, Nat.zero_add, Nat.add_zero, decT, decF, bneI_t, bneI_f, hw]
  | succ m ih =>
    intro i hi
    have hlt : i < xs.length := by omega
    have g1 := strsOf_get h hlt
    have g4 : i64 ((i : Int) + 1) = ((i + 1 : Nat) : Int) := by rw [i64_in _ (by omega)]; omega
    have hmem : xs.getD i [] ∈ xs := by
      have : xs.getD i [] = xs[i] := by simp [List.getD, hlt]
      rw [this]; exact List.getElem_mem hlt
    have hxl := hb _ hmem
    have hwx := List.all_eq_true.1 hall _ hmem
    generalize xs.getD i [] = x at *
    have j := one_at hwx hxl
    have one : ([AV.str (.sym x)]).length = 1 := rfl
    have c32 := contains_at (x := x) (c := 32) (by omega)
    have c35 := contains_at (x := x) (c := 35) (by omega)
    rw [iter_next (y := [.n xs.length, .l l, .i ((xs.length : Nat) : Int), .i ((i + 1 : Nat) : Int)]), ih (i + 1) (by omega)]
    unfold F_law05_LexemeBack_L0
    clear h ih hb hall hmem
    by_cases hne : x = []
    · subst hne
      have hs0 : (([] : List UInt8) == []) = true := rfl
      have hit : item [] = ([34] ++ []) ++ [34] := rfl
      rw [hit] at j
      have q : ((([34] ++ []) ++ [34] : List UInt8) == (([34] ++ []) ++ [34])) = true := rfl
      simp (disch := omega) only [onI_c, onS_c, onB_c, onN_c, onL_c, Option.bind_some, Option.map_some, cond_true, cond_false, ↓onI_c, ↓onS_c, ↓onB_c, ↓onN_c, ↓onL_c, ↓Option.bind_some, ↓cond_true, ↓cond_false, decide_eq_true, decide_eq_false, Bool.not_true, Bool.not_false, Int.toNat_natCast, List.length_append, List.length_cons, List.length_nil, List.drop_zero, Nat.zero_add, Nat.add_zero, decT, decF, bneI_t, bneI_f, g1, g4, hs0, one, j, q]
    · have hs0 : (x == []) = false := beq_f hne
      have hbm := bare_mem hne
      by_cases h32 : (32 : UInt8) ∈ x
      · rw [decide_eq_true h32] at c32 hbm
        have hit : item x = ([34] ++ x) ++ [34] := item_q (by rw [hbm]; rfl)
        rw [hit] at j
        have q : ((([34] ++ x) ++ [34] : List UInt8) == (([34] ++ x) ++ [34])) = true := beq_self_eq_true _
        clear h32 hbm hit
        simp (disch := omega) only [onI_c, onS_c, onB_c, onN_c, onL_c, Option.bind_some, Option.map_some, cond_true, cond_false, ↓onI_c, ↓onS_c, ↓onB_c, ↓onN_c, ↓onL_c, ↓Option.bind_some, ↓cond_true, ↓cond_false, decide_eq_true, decide_eq_false, Bool.not_true, Bool.not_false, Int.toNat_natCast, List.length_append, List.length_cons, List.length_nil, List.drop_zero, Nat.zero_add, Nat.add_zero, decT, decF, bneI_t, bneI_f, g1, g4, hs0, one, j, q, c32]
      · rw [decide_eq_false h32] at c32 hbm
        by_cases h35 : (35 : UInt8) ∈ x
        · rw [decide_eq_true h35] at c35 hbm
          have hit : item x = ([34] ++ x) ++ [34] := item_q (by rw [hbm]; rfl)
          rw [hit] at j
          have q : ((([34] ++ x) ++ [34] : List UInt8) == (([34] ++ x) ++ [34])) = true := beq_self_eq_true _
          clear h32 h35 hbm hit
          simp (disch := omega) only [onI_c, onS_c, onB_c, onN_c, onL_c, Option.bind_some, Option.map_some, cond_true, cond_false, ↓onI_c, ↓onS_c, ↓onB_c, ↓onN_c, ↓onL_c, ↓Option.bind_some, ↓cond_true, ↓cond_false, decide_eq_true, decide_eq_false, Bool.not_true, Bool.not_false, Int.toNat_natCast, List.length_append, List.length_cons, List.length_nil, List.drop_zero, Nat.zero_add, Nat.add_zero, decT, decF, bneI_t, bneI_f, g1, g4, hs0, one, j, q, c32, c35]
        · rw [decide_eq_false h35] at c35 hbm
          have hit : item x = x := item_b (by rw [hbm]; rfl)
          rw [hit] at j
          have q : (x == x) = true := beq_self_eq_true _
          clear h32 h35 hbm hit
          simp (disch := omega) only [onI_c, onS_c, onB_c, onN_c, onL_c, Option.bind_some, Option.map_some, cond_true, cond_false, ↓onI_c, ↓onS_c, ↓onB_c, ↓onN_c, ↓onL_c, ↓Option.bind_some, ↓cond_true, ↓cond_false, decide_eq_true, decide_eq_false, Bool.not_true, Bool.not_false, Int.toNat_natCast, List.length_append, List.length_cons, List.length_nil, List.drop_zero, Nat.zero_add, Nat.add_zero, decT, decF, bneI_t, bneI_f, g1, g4, hs0, one, j, q, c32, c35]
theorem lexemeBack {cells : List AV} {ds : List (List UInt8)} (hr : Rows cells ds) (cm : List UInt8) (hcm : cm.length ≤ 9223372036854775807) : F_law05_LexemeBack [.n ds.length, .l cells, .s cm] = some [.b true] := by
  obtain ⟨l, m1, m2⟩ := made_at hr rfl
  obtain ⟨o1, o2, o3⟩ := madeV_ok ds
  generalize madeV ds = xs at *
  have hjl := jn_length (xs := xs) (k := 12) (f := true) o2
  have hj300 : (jn true xs).length ≤ 180 := by omega
  have j := join_at m2 (by omega) (fun x q => Nat.le_trans (o2 x q) (by omega)) rfl
  have jv : joinV xs = (jn true xs, 0) := by unfold joinV; rw [if_pos o3, if_neg (by omega)]
  rw [jv] at j
  dsimp only at j
  have mn : (if 40 < ((cm.length : Nat) : Int) then 40 else ((cm.length : Nat) : Int)) = (((cm.take 40).length : Nat) : Int) := by
    rw [List.length_take]
    by_cases h : 40 < cm.length
    · rw [if_pos (by omega)]; omega
    · rw [if_neg (by omega)]; omega
  have tk : List.take (cm.take 40).length cm = cm.take 40 := by
    rw [List.length_take]
    by_cases h : 40 ≤ cm.length
    · rw [Nat.min_eq_left h]
    · rw [Nat.min_eq_right (by omega), List.take_of_length_le (by omega), List.take_of_length_le (by omega)]
  have hc40 : (cm.take 40).length ≤ 40 := by simp; omega
  have hc41 : (cm.take 40).length ≤ cm.length := by simp; omega
  have rd : ∀ s : List UInt8, s.length ≤ 300 → fs false false [] [] s = some xs → ∃ r, F_lexeme_Fields [.s s] = some [.n xs.length, .l r, .i 0] ∧ F_slices_Equalstring_string_ [.n xs.length, .l r, .n xs.length, .l l] = some [.b true] := by
    intro s h1 h2
    obtain ⟨r, k1, k2⟩ := fields_at s (by omega)
    rw [fieldsV_of h1 h2] at k1 k2
    have e := equal_at k2 m2 rfl rfl (by show xs.length < _; omega)
    rw [decide_eq_true rfl] at e
    exact ⟨r, k1, e⟩
  have f0 := fs_jn ends_nil (xs := xs) (out := []) o3
  rw [List.append_nil, List.nil_append] at f0
  obtain ⟨r1, a1, b1⟩ := rd (jn true xs) (by omega) f0
  obtain ⟨r2, a2, b2⟩ := rd ([32] ++ jn true xs) (by simp; omega) (by rw [List.singleton_append, lead_gap (.inr rfl)]; exact f0)
  obtain ⟨r3, a3, b3⟩ := rd (([9, 32, 9] ++ jn true xs) ++ [32, 32]) (by simp; omega) (by
    have f1 := fs_jn (ends_gap (ends_gap ends_nil)) (xs := xs) (out := []) o3
    rw [List.nil_append] at f1
    rw [List.append_assoc, show ([9, 32, 9] : List UInt8) ++ (jn true xs ++ [32, 32]) = 9 :: 32 :: 9 :: (jn true xs ++ [32, 32]) from rfl, lead_gap (.inl rfl), lead_gap (.inr rfl), lead_gap (.inl rfl)]
    exact f1)
  obtain ⟨r4, a4, b4⟩ := rd ((jn true xs ++ [35]) ++ cm.take 40) (by rw [List.length_append, List.length_append, List.length_singleton]; omega) (by
    have f1 := fs_jn (ends_hash (cm.take 40)) (xs := xs) (out := []) o3
    rw [List.nil_append] at f1
    rw [List.append_assoc]
    exact f1)
  obtain ⟨r5, a5, b5⟩ := rd ((jn true xs ++ [32, 35, 32]) ++ cm.take 40) (by rw [List.length_append, List.length_append]; simp only [List.length_cons, List.length_nil]; omega) (by
    have f1 := fs_jn (ends_gap (ends_hash (32 :: cm.take 40))) (xs := xs) (out := []) o3
    rw [List.nil_append] at f1
    rw [List.append_assoc]
    exact f1)
  have tail := back_tail m2 o1 o2 o3 xs.length 0 (by omega)
  unfold F_law05_LexemeBack
  clear rd f0 jv m2 o2 o3 hr
  generalize cm.take 40 = c40 at *
  generalize jn true xs = J at *
  simp (disch := omega) only [onI_c, onS_c, onB_c, onN_c, onL_c, Option.bind_some, Option.map_some, cond_true, cond_false, ↓onI_c, ↓onS_c, ↓onB_c, ↓onN_c, ↓onL_c, ↓Option.bind_some, ↓cond_true, ↓cond_false, decide_eq_true, decide_eq_false, Bool.not_true, Bool.not_false, Int.toNat_natCast, List.length_append, List.length_cons, List.length_nil, List.drop_zero, Nat.zero_add, Nat.add_zero, decT, decF, bneI_t, bneI_f, m1, mn, tk, j, a1, a2, a3, a4, a5, b1, b2, b3, b4, b5]
  exact tail
theorem lawP_LexemeBack {dats : List Dat} (h : DatOk tau [.slice 45, .string] dats) : F_law05_LexemeBack dats = some [.b true] := by
  obtain ⟨n, c, r, rfl, hc, s, r2, rfl, hs, rfl⟩ := h
  obtain ⟨ds, hd, rfl⟩ := rows_of (e2 := 5) (by kernel_rfl) (by kernel_rfl) hc
  exact lexemeBack hd s (by unfold maxLen at hs; omega)
end Go.Proofs.YtgehedalhppehaaDoor
