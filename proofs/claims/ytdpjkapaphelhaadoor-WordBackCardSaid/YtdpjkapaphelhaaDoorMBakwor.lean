/-
  Words: a beginning of a word means it, if no other word begins so.
-/
import Derived.Test.YtdpjkapaphelhaaDoorMMorwor
namespace Go.Proofs.YtdpjkapaphelhaaDoor
open Go.Ax Go.Lib
set_option linter.all false
set_option maxHeartbeats 4000000
set_option maxRecDepth 100000
attribute [local congr] cond_cong bind_cong onI_cong onB_cong onS_cong onN_cong onL_cong

/-- How many other words begin with the same n letters, from place k on. -/
def cntF (ws : List (List UInt8)) (j n : Nat) : Nat → Nat → Nat
  | _, 0 => 0
  | k, r + 1 => (if k ≠ j ∧ n ≤ (ws.getD k []).length ∧ (ws.getD k []).take n = (ws.getD j []).take n then 1 else 0) + cntF ws j n (k + 1) r
theorem cntF_le (ws : List (List UInt8)) (j n : Nat) : ∀ r k, cntF ws j n k r ≤ r
  | 0, k => Nat.le_refl _
  | r + 1, k => by
    have := cntF_le ws j n r (k + 1)
    unfold cntF
    split <;> omega
def backB (ws : List (List UInt8)) (m : Nat) : Bool := (List.range m).all fun j => (List.range 13).all fun n =>
  (n == 0) || decide ((ws.getD j []).length < n) || (if 0 < cntF ws j n 0 m ∧ n < (ws.getD j []).length then refR ((ws.getD j []).take n) 0 (-1) 0 ws == ((0 : Int), (8 : Int)) else refR ((ws.getD j []).take n) 0 (-1) 0 ws == ((j : Int), (0 : Int)))
theorem back_of {ws : List (List UInt8)} {m : Nat} (h : backB ws m = true) {j n : Nat} (hj : j < m) (h1 : 1 ≤ n) (h2 : n ≤ (ws.getD j []).length) (h3 : n ≤ 12) :
    (0 < cntF ws j n 0 m ∧ n < (ws.getD j []).length → refR ((ws.getD j []).take n) 0 (-1) 0 ws = (0, 8)) ∧ (¬ (0 < cntF ws j n 0 m ∧ n < (ws.getD j []).length) → refR ((ws.getD j []).take n) 0 (-1) 0 ws = ((j : Int), 0)) := by
  unfold backB at h
  have q := List.all_eq_true.1 (List.all_eq_true.1 h j (List.mem_range.2 hj)) n (List.mem_range.2 (by omega))
  have e1 : (n == 0) = false := by simp; omega
  have e2 : decide ((ws.getD j []).length < n) = false := decide_eq_false (by omega)
  rw [e1, e2, Bool.false_or, Bool.false_or] at q
  constructor
  · intro c; rw [if_pos c] at q; exact eq_of_beq q
  · intro c; rw [if_neg c] at q; exact eq_of_beq q
def sy (ws : List (List UInt8)) : List AV := ws.map fun w => .str (.sym w)
theorem sy_at {ws : List (List UInt8)} {i : Nat} (h : i < ws.length) : asS (sy ws)[i]? = some (ws.getD i []) := by
  unfold sy
  rw [List.getElem?_map, List.getElem?_eq_getElem h, List.getD_eq_getElem?_getD, List.getElem?_eq_getElem h]; rfl
theorem fx_at {F : List Dat → Option (List Dat)} {ws : List (List UInt8)} {first : Int} (h : FX F ws first) {y w : List UInt8} (hy : Sm.smallV y = w) (hl : y.length ≤ 1000) {r : Int × Int} (hr : refR w 0 (-1) 0 ws = r) : F [.s y] = some [.i (more first r).1, .i (more first r).2] := by
  have := h y hl
  rw [hy, hr] at this
  exact this
theorem small_take {ws : List (List UInt8)} (h : ∀ w ∈ ws, Sm.smallV w = w) {j : Nat} (hj : j < ws.length) (n : Nat) : Sm.smallV ((ws.getD j []).take n) = (ws.getD j []).take n := by
  have e : ws.getD j [] ∈ ws := by
    rw [List.getD_eq_getElem?_getD, List.getElem?_eq_getElem hj]; exact List.getElem_mem hj
  have h1 := h _ e
  generalize ws.getD j [] = w at *
  conv => rhs; rw [← h1]
  unfold Sm.smallV
  rw [List.map_take]

theorem bsy_To {k : Nat} (hk : k < 2) : asS ([(AV.str (.sym ([111, 110, 108, 121] : List UInt8))), (AV.str (.sym ([109, 97, 120, 105, 109, 117, 109] : List UInt8)))])[k]? = some (wsTo.getD k []) := by
  have h := sy_at (ws := wsTo) (i := k) hk
  exact h
theorem bloop_To (bits : Int) {j n : Nat} (hj : j < 2) (hn : n ≤ (wsTo.getD j []).length) (hw : (wsTo.getD j []).length ≤ 20) : ∀ (r k o : Nat), k + r = 2 → o ≤ k →
    iter F_law08_WordBack_L0 [.i bits, .i ((j : Nat) : Int), .s (wsTo.getD j []), .i ((n : Nat) : Int), .i ((o : Nat) : Int), .i ((k : Nat) : Int), .i 1, .s ([111, 110, 108, 121] : List UInt8), .s ([109, 97, 120, 105, 109, 117, 109] : List UInt8)] = iter F_law08_WordBack_L0 [.i bits, .i ((j : Nat) : Int), .s (wsTo.getD j []), .i ((n : Nat) : Int), .i ((o + cntF wsTo j n k r : Nat) : Int), .i ((2 : Nat) : Int), .i 1, .s ([111, 110, 108, 121] : List UInt8), .s ([109, 97, 120, 105, 109, 117, 109] : List UInt8)] := by
  intro r
  induction r with
  | zero =>
    intro k o hk ho
    obtain rfl : k = 2 := by omega
    rfl
  | succ r ih =>
    intro k o hk ho
    have hlt : k < 2 := by omega
    have e1 := bsy_To hlt
    have e2 : i64 ((k : Int) + 1) = ((k + 1 : Nat) : Int) := by rw [i64_in _ (by omega)]; omega
    have e3 : i64 ((o : Int) + 1) = ((o + 1 : Nat) : Int) := by rw [i64_in _ (by omega)]; omega
    have step : ∀ o' : Nat, o' = o + (if k ≠ j ∧ n ≤ (wsTo.getD k []).length ∧ (wsTo.getD k []).take n = (wsTo.getD j []).take n then 1 else 0) → F_law08_WordBack_L0 [.i bits, .i ((j : Nat) : Int), .s (wsTo.getD j []), .i ((n : Nat) : Int), .i ((o : Nat) : Int), .i ((k : Nat) : Int), .i 1, .s ([111, 110, 108, 121] : List UInt8), .s ([109, 97, 120, 105, 109, 117, 109] : List UInt8)] = some (.inl [.i bits, .i ((j : Nat) : Int), .s (wsTo.getD j []), .i ((n : Nat) : Int), .i ((o' : Nat) : Int), .i ((k + 1 : Nat) : Int), .i 1, .s ([111, 110, 108, 121] : List UInt8), .s ([109, 97, 120, 105, 109, 117, 109] : List UInt8)]) := by
      intro o' ho'
      generalize wsTo.getD k [] = v at *
      generalize wsTo.getD j [] = w at *
      clear ih
      unfold F_law08_WordBack_L0
      by_cases c1 : k = j
      · rw [if_neg (fun c => c.1 c1)] at ho'
        subst ho'
        simp (disch := omega) only [onI_c, onS_c, onB_c, onN_c, onL_c, Option.bind_some, Option.map_some, cond_true, cond_false, ↓onI_c, ↓onS_c, ↓onB_c, ↓onN_c, ↓onL_c, ↓Option.bind_some, ↓cond_true, ↓cond_false, decide_eq_true, decide_eq_false, Bool.not_true, Bool.not_false, Int.toNat_natCast, List.length_append, List.length_cons, List.length_nil, List.drop_zero, Nat.zero_add, Nat.add_zero, decT, decF, bneI_t, bneI_f, e1, e2, e3]
      · by_cases c2 : n ≤ v.length
        · by_cases c3 : v.take n = w.take n
          · rw [if_pos ⟨c1, c2, c3⟩] at ho'
            subst ho'
            have q := beq_t c3
            simp (disch := omega) only [onI_c, onS_c, onB_c, onN_c, onL_c, Option.bind_some, Option.map_some, cond_true, cond_false, ↓onI_c, ↓onS_c, ↓onB_c, ↓onN_c, ↓onL_c, ↓Option.bind_some, ↓cond_true, ↓cond_false, decide_eq_true, decide_eq_false, Bool.not_true, Bool.not_false, Int.toNat_natCast, List.length_append, List.length_cons, List.length_nil, List.drop_zero, Nat.zero_add, Nat.add_zero, decT, decF, bneI_t, bneI_f, e1, e2, e3, q]
          · rw [if_neg (fun c => c3 c.2.2)] at ho'
            subst ho'
            have q := beq_f c3
            simp (disch := omega) only [onI_c, onS_c, onB_c, onN_c, onL_c, Option.bind_some, Option.map_some, cond_true, cond_false, ↓onI_c, ↓onS_c, ↓onB_c, ↓onN_c, ↓onL_c, ↓Option.bind_some, ↓cond_true, ↓cond_false, decide_eq_true, decide_eq_false, Bool.not_true, Bool.not_false, Int.toNat_natCast, List.length_append, List.length_cons, List.length_nil, List.drop_zero, Nat.zero_add, Nat.add_zero, decT, decF, bneI_t, bneI_f, e1, e2, e3, q]
        · rw [if_neg (fun c => c2 c.2.1)] at ho'
          subst ho'
          simp (disch := omega) only [onI_c, onS_c, onB_c, onN_c, onL_c, Option.bind_some, Option.map_some, cond_true, cond_false, ↓onI_c, ↓onS_c, ↓onB_c, ↓onN_c, ↓onL_c, ↓Option.bind_some, ↓cond_true, ↓cond_false, decide_eq_true, decide_eq_false, Bool.not_true, Bool.not_false, Int.toNat_natCast, List.length_append, List.length_cons, List.length_nil, List.drop_zero, Nat.zero_add, Nat.add_zero, decT, decF, bneI_t, bneI_f, e1, e2, e3]
    have hu : cntF wsTo j n k (r + 1) = (if k ≠ j ∧ n ≤ (wsTo.getD k []).length ∧ (wsTo.getD k []).take n = (wsTo.getD j []).take n then 1 else 0) + cntF wsTo j n (k + 1) r := rfl
    rw [hu, ← Nat.add_assoc, iter_next (step _ rfl)]
    exact ih (k + 1) _ (by omega) (by split <;> omega)
theorem back_To (bits : Int) {j n : Nat} (hj : j < 2) (h1 : 1 ≤ n) (hn : n ≤ (wsTo.getD j []).length) (hw : (wsTo.getD j []).length ≤ 12) :
    iter F_law08_WordBack_L0 [.i bits, .i ((j : Nat) : Int), .s (wsTo.getD j []), .i ((n : Nat) : Int), .i 0, .i 0, .i 1, .s ([111, 110, 108, 121] : List UInt8), .s ([109, 97, 120, 105, 109, 117, 109] : List UInt8)] = some [.b true] := by
  have hb := bloop_To bits hj hn (by omega) 2 0 0 (by omega) (by omega)
  have hcl := cntF_le wsTo j n 2 0
  rw [Nat.zero_add] at hb
  refine Eq.trans hb ?_
  clear hb
  have hbk : backB wsTo 2 = true := by decide +kernel
  obtain ⟨r1, r2⟩ := back_of hbk hj h1 hn (by omega)
  obtain ⟨_, r3⟩ := back_of (n := (wsTo.getD j []).length) hbk hj (by omega) (Nat.le_refl _) hw
  have r3 := r3 (fun c => Nat.lt_irrefl _ c.2)
  have s1 := small_take (ws := wsTo) (by decide) (show j < wsTo.length from hj) n
  have s2 := small_take (ws := wsTo) (by decide) (show j < wsTo.length from hj) (wsTo.getD j []).length
  obtain ⟨y, y1, y2, y3⟩ := cased_at (s := (wsTo.getD j []).take n) bits (by rw [List.length_take]; omega)
  obtain ⟨z, z1, z2, z3⟩ := cased_at (s := wsTo.getD j []) bits (by omega)
  rw [List.length_take] at y3
  rw [List.take_of_length_le (Nat.le_refl _)] at s2 r3
  have fz := fx_at fx_To (z2.trans s2) (by omega) r3
  have fy8 := fun c => fx_at fx_To (y2.trans s1) (by omega) (r1 c)
  have fy0 := fun c => fx_at fx_To (y2.trans s1) (by omega) (r2 c)
  clear r1 r2 r3 s1 s2 hbk y2 z2
  generalize cntF wsTo j n 0 2 = c at *
  generalize wsTo.getD j [] = w at *
  have e : i64 ((j : Int) + 1) = (j : Int) + 1 := i64_in _ (by omega)
  refine iter_end ?_
  unfold F_law08_WordBack_L0
  by_cases c1 : 0 < c
  · by_cases c2 : n < w.length
    · have f := fy8 ⟨c1, c2⟩
      simp only [more, (by decide : ¬ ((0 : Int), (8 : Int)).2 = 0), if_false] at f
      clear fy8 fy0
      simp (disch := omega) only [onI_c, onS_c, onB_c, onN_c, onL_c, Option.bind_some, Option.map_some, cond_true, cond_false, ↓onI_c, ↓onS_c, ↓onB_c, ↓onN_c, ↓onL_c, ↓Option.bind_some, ↓cond_true, ↓cond_false, decide_eq_true, decide_eq_false, Bool.not_true, Bool.not_false, Int.toNat_natCast, List.length_append, List.length_cons, List.length_nil, List.drop_zero, Nat.zero_add, Nat.add_zero, decT, decF, bneI_t, bneI_f, y1, f, wworks_at]
    · have f := fy0 (fun q => c2 q.2)
      simp only [more, if_true] at f fz
      clear fy8 fy0
      simp (disch := omega) only [onI_c, onS_c, onB_c, onN_c, onL_c, Option.bind_some, Option.map_some, cond_true, cond_false, ↓onI_c, ↓onS_c, ↓onB_c, ↓onN_c, ↓onL_c, ↓Option.bind_some, ↓cond_true, ↓cond_false, decide_eq_true, decide_eq_false, Bool.not_true, Bool.not_false, Int.toNat_natCast, List.length_append, List.length_cons, List.length_nil, List.drop_zero, Nat.zero_add, Nat.add_zero, decT, decF, bneI_t, bneI_f, y1, z1, f, fz, e, wworks_at]
  · have f := fy0 (fun q => c1 q.1)
    simp only [more, if_true] at f fz
    clear fy8 fy0
    simp (disch := omega) only [onI_c, onS_c, onB_c, onN_c, onL_c, Option.bind_some, Option.map_some, cond_true, cond_false, ↓onI_c, ↓onS_c, ↓onB_c, ↓onN_c, ↓onL_c, ↓Option.bind_some, ↓cond_true, ↓cond_false, decide_eq_true, decide_eq_false, Bool.not_true, Bool.not_false, Int.toNat_natCast, List.length_append, List.length_cons, List.length_nil, List.drop_zero, Nat.zero_add, Nat.add_zero, decT, decF, bneI_t, bneI_f, y1, z1, f, fz, e, wworks_at]

theorem bsy_Week {k : Nat} (hk : k < 7) : asS ([(AV.str (.sym ([115, 117, 110, 100, 97, 121] : List UInt8))), (AV.str (.sym ([109, 111, 110, 100, 97, 121] : List UInt8))), (AV.str (.sym ([116, 117, 101, 115, 100, 97, 121] : List UInt8))), (AV.str (.sym ([119, 101, 100, 110, 101, 115, 100, 97, 121] : List UInt8))), (AV.str (.sym ([116, 104, 117, 114, 115, 100, 97, 121] : List UInt8))), (AV.str (.sym ([102, 114, 105, 100, 97, 121] : List UInt8))), (AV.str (.sym ([115, 97, 116, 117, 114, 100, 97, 121] : List UInt8)))])[k]? = some (wsWeek.getD k []) := by
  have h := sy_at (ws := wsWeek) (i := k) hk
  exact h
theorem bloop_Week (bits : Int) {j n : Nat} (hj : j < 7) (hn : n ≤ (wsWeek.getD j []).length) (hw : (wsWeek.getD j []).length ≤ 20) : ∀ (r k o : Nat), k + r = 7 → o ≤ k →
    iter F_law08_WordBack_L1 [.i bits, .i ((j : Nat) : Int), .s (wsWeek.getD j []), .i ((n : Nat) : Int), .i ((o : Nat) : Int), .i ((k : Nat) : Int), .i 0, .s ([115, 117, 110, 100, 97, 121] : List UInt8), .s ([109, 111, 110, 100, 97, 121] : List UInt8), .s ([116, 117, 101, 115, 100, 97, 121] : List UInt8), .s ([119, 101, 100, 110, 101, 115, 100, 97, 121] : List UInt8), .s ([116, 104, 117, 114, 115, 100, 97, 121] : List UInt8), .s ([102, 114, 105, 100, 97, 121] : List UInt8), .s ([115, 97, 116, 117, 114, 100, 97, 121] : List UInt8)] = iter F_law08_WordBack_L1 [.i bits, .i ((j : Nat) : Int), .s (wsWeek.getD j []), .i ((n : Nat) : Int), .i ((o + cntF wsWeek j n k r : Nat) : Int), .i ((7 : Nat) : Int), .i 0, .s ([115, 117, 110, 100, 97, 121] : List UInt8), .s ([109, 111, 110, 100, 97, 121] : List UInt8), .s ([116, 117, 101, 115, 100, 97, 121] : List UInt8), .s ([119, 101, 100, 110, 101, 115, 100, 97, 121] : List UInt8), .s ([116, 104, 117, 114, 115, 100, 97, 121] : List UInt8), .s ([102, 114, 105, 100, 97, 121] : List UInt8), .s ([115, 97, 116, 117, 114, 100, 97, 121] : List UInt8)] := by
  intro r
  induction r with
  | zero =>
    intro k o hk ho
    obtain rfl : k = 7 := by omega
    rfl
  | succ r ih =>
    intro k o hk ho
    have hlt : k < 7 := by omega
    have e1 := bsy_Week hlt
    have e2 : i64 ((k : Int) + 1) = ((k + 1 : Nat) : Int) := by rw [i64_in _ (by omega)]; omega
    have e3 : i64 ((o : Int) + 1) = ((o + 1 : Nat) : Int) := by rw [i64_in _ (by omega)]; omega
    have step : ∀ o' : Nat, o' = o + (if k ≠ j ∧ n ≤ (wsWeek.getD k []).length ∧ (wsWeek.getD k []).take n = (wsWeek.getD j []).take n then 1 else 0) → F_law08_WordBack_L1 [.i bits, .i ((j : Nat) : Int), .s (wsWeek.getD j []), .i ((n : Nat) : Int), .i ((o : Nat) : Int), .i ((k : Nat) : Int), .i 0, .s ([115, 117, 110, 100, 97, 121] : List UInt8), .s ([109, 111, 110, 100, 97, 121] : List UInt8), .s ([116, 117, 101, 115, 100, 97, 121] : List UInt8), .s ([119, 101, 100, 110, 101, 115, 100, 97, 121] : List UInt8), .s ([116, 104, 117, 114, 115, 100, 97, 121] : List UInt8), .s ([102, 114, 105, 100, 97, 121] : List UInt8), .s ([115, 97, 116, 117, 114, 100, 97, 121] : List UInt8)] = some (.inl [.i bits, .i ((j : Nat) : Int), .s (wsWeek.getD j []), .i ((n : Nat) : Int), .i ((o' : Nat) : Int), .i ((k + 1 : Nat) : Int), .i 0, .s ([115, 117, 110, 100, 97, 121] : List UInt8), .s ([109, 111, 110, 100, 97, 121] : List UInt8), .s ([116, 117, 101, 115, 100, 97, 121] : List UInt8), .s ([119, 101, 100, 110, 101, 115, 100, 97, 121] : List UInt8), .s ([116, 104, 117, 114, 115, 100, 97, 121] : List UInt8), .s ([102, 114, 105, 100, 97, 121] : List UInt8), .s ([115, 97, 116, 117, 114, 100, 97, 121] : List UInt8)]) := by
      intro o' ho'
      generalize wsWeek.getD k [] = v at *
      generalize wsWeek.getD j [] = w at *
      clear ih
      unfold F_law08_WordBack_L1
      by_cases c1 : k = j
      · rw [if_neg (fun c => c.1 c1)] at ho'
        subst ho'
        simp (disch := omega) only [onI_c, onS_c, onB_c, onN_c, onL_c, Option.bind_some, Option.map_some, cond_true, cond_false, ↓onI_c, ↓onS_c, ↓onB_c, ↓onN_c, ↓onL_c, ↓Option.bind_some, ↓cond_true, ↓cond_false, decide_eq_true, decide_eq_false, Bool.not_true, Bool.not_false, Int.toNat_natCast, List.length_append, List.length_cons, List.length_nil, List.drop_zero, Nat.zero_add, Nat.add_zero, decT, decF, bneI_t, bneI_f, e1, e2, e3]
      · by_cases c2 : n ≤ v.length
        · by_cases c3 : v.take n = w.take n
          · rw [if_pos ⟨c1, c2, c3⟩] at ho'
            subst ho'
            have q := beq_t c3
            simp (disch := omega) only [onI_c, onS_c, onB_c, onN_c, onL_c, Option.bind_some, Option.map_some, cond_true, cond_false, ↓onI_c, ↓onS_c, ↓onB_c, ↓onN_c, ↓onL_c, ↓Option.bind_some, ↓cond_true, ↓cond_false, decide_eq_true, decide_eq_false, Bool.not_true, Bool.not_false, Int.toNat_natCast, List.length_append, List.length_cons, List.length_nil, List.drop_zero, Nat.zero_add, Nat.add_zero, decT, decF, bneI_t, bneI_f, e1, e2, e3, q]
          · rw [if_neg (fun c => c3 c.2.2)] at ho'
            subst ho'
            have q := beq_f c3
            simp (disch := omega) only [onI_c, onS_c, onB_c, onN_c, onL_c, Option.bind_some, Option.map_some, cond_true, cond_false, ↓onI_c, ↓onS_c, ↓onB_c, ↓onN_c, ↓onL_c, ↓Option.bind_some, ↓cond_true, ↓cond_false, decide_eq_true, decide_eq_false, Bool.not_true, Bool.not_false, Int.toNat_natCast, List.length_append, List.length_cons, List.length_nil, List.drop_zero, Nat.zero_add, Nat.add_zero, decT, decF, bneI_t, bneI_f, e1, e2, e3, q]
        · rw [if_neg (fun c => c2 c.2.1)] at ho'
          subst ho'
          simp (disch := omega) only [onI_c, onS_c, onB_c, onN_c, onL_c, Option.bind_some, Option.map_some, cond_true, cond_false, ↓onI_c, ↓onS_c, ↓onB_c, ↓onN_c, ↓onL_c, ↓Option.bind_some, ↓cond_true, ↓cond_false, decide_eq_true, decide_eq_false, Bool.not_true, Bool.not_false, Int.toNat_natCast, List.length_append, List.length_cons, List.length_nil, List.drop_zero, Nat.zero_add, Nat.add_zero, decT, decF, bneI_t, bneI_f, e1, e2, e3]
    have hu : cntF wsWeek j n k (r + 1) = (if k ≠ j ∧ n ≤ (wsWeek.getD k []).length ∧ (wsWeek.getD k []).take n = (wsWeek.getD j []).take n then 1 else 0) + cntF wsWeek j n (k + 1) r := rfl
    rw [hu, ← Nat.add_assoc, iter_next (step _ rfl)]
    exact ih (k + 1) _ (by omega) (by split <;> omega)
theorem back_Week (bits : Int) {j n : Nat} (hj : j < 7) (h1 : 1 ≤ n) (hn : n ≤ (wsWeek.getD j []).length) (hw : (wsWeek.getD j []).length ≤ 12) :
    iter F_law08_WordBack_L1 [.i bits, .i ((j : Nat) : Int), .s (wsWeek.getD j []), .i ((n : Nat) : Int), .i 0, .i 0, .i 0, .s ([115, 117, 110, 100, 97, 121] : List UInt8), .s ([109, 111, 110, 100, 97, 121] : List UInt8), .s ([116, 117, 101, 115, 100, 97, 121] : List UInt8), .s ([119, 101, 100, 110, 101, 115, 100, 97, 121] : List UInt8), .s ([116, 104, 117, 114, 115, 100, 97, 121] : List UInt8), .s ([102, 114, 105, 100, 97, 121] : List UInt8), .s ([115, 97, 116, 117, 114, 100, 97, 121] : List UInt8)] = some [.b true] := by
  have hb := bloop_Week bits hj hn (by omega) 7 0 0 (by omega) (by omega)
  have hcl := cntF_le wsWeek j n 7 0
  rw [Nat.zero_add] at hb
  refine Eq.trans hb ?_
  clear hb
  have hbk : backB wsWeek 7 = true := by decide +kernel
  obtain ⟨r1, r2⟩ := back_of hbk hj h1 hn (by omega)
  obtain ⟨_, r3⟩ := back_of (n := (wsWeek.getD j []).length) hbk hj (by omega) (Nat.le_refl _) hw
  have r3 := r3 (fun c => Nat.lt_irrefl _ c.2)
  have s1 := small_take (ws := wsWeek) (by decide) (show j < wsWeek.length from hj) n
  have s2 := small_take (ws := wsWeek) (by decide) (show j < wsWeek.length from hj) (wsWeek.getD j []).length
  obtain ⟨y, y1, y2, y3⟩ := cased_at (s := (wsWeek.getD j []).take n) bits (by rw [List.length_take]; omega)
  obtain ⟨z, z1, z2, z3⟩ := cased_at (s := wsWeek.getD j []) bits (by omega)
  rw [List.length_take] at y3
  rw [List.take_of_length_le (Nat.le_refl _)] at s2 r3
  have fz := fx_at fx_Week (z2.trans s2) (by omega) r3
  have fy8 := fun c => fx_at fx_Week (y2.trans s1) (by omega) (r1 c)
  have fy0 := fun c => fx_at fx_Week (y2.trans s1) (by omega) (r2 c)
  clear r1 r2 r3 s1 s2 hbk y2 z2
  generalize cntF wsWeek j n 0 7 = c at *
  generalize wsWeek.getD j [] = w at *
  have e : i64 ((j : Int) + 0) = (j : Int) + 0 := i64_in _ (by omega)
  refine iter_end ?_
  unfold F_law08_WordBack_L1
  by_cases c1 : 0 < c
  · by_cases c2 : n < w.length
    · have f := fy8 ⟨c1, c2⟩
      simp only [more, (by decide : ¬ ((0 : Int), (8 : Int)).2 = 0), if_false] at f
      clear fy8 fy0
      simp (disch := omega) only [onI_c, onS_c, onB_c, onN_c, onL_c, Option.bind_some, Option.map_some, cond_true, cond_false, ↓onI_c, ↓onS_c, ↓onB_c, ↓onN_c, ↓onL_c, ↓Option.bind_some, ↓cond_true, ↓cond_false, decide_eq_true, decide_eq_false, Bool.not_true, Bool.not_false, Int.toNat_natCast, List.length_append, List.length_cons, List.length_nil, List.drop_zero, Nat.zero_add, Nat.add_zero, decT, decF, bneI_t, bneI_f, y1, f, wworks_at]
    · have f := fy0 (fun q => c2 q.2)
      simp only [more, if_true] at f fz
      clear fy8 fy0
      simp (disch := omega) only [onI_c, onS_c, onB_c, onN_c, onL_c, Option.bind_some, Option.map_some, cond_true, cond_false, ↓onI_c, ↓onS_c, ↓onB_c, ↓onN_c, ↓onL_c, ↓Option.bind_some, ↓cond_true, ↓cond_false, decide_eq_true, decide_eq_false, Bool.not_true, Bool.not_false, Int.toNat_natCast, List.length_append, List.length_cons, List.length_nil, List.drop_zero, Nat.zero_add, Nat.add_zero, decT, decF, bneI_t, bneI_f, y1, z1, f, fz, e, wworks_at]
  · have f := fy0 (fun q => c1 q.1)
    simp only [more, if_true] at f fz
    clear fy8 fy0
    simp (disch := omega) only [onI_c, onS_c, onB_c, onN_c, onL_c, Option.bind_some, Option.map_some, cond_true, cond_false, ↓onI_c, ↓onS_c, ↓onB_c, ↓onN_c, ↓onL_c, ↓Option.bind_some, ↓cond_true, ↓cond_false, decide_eq_true, decide_eq_false, Bool.not_true, Bool.not_false, Int.toNat_natCast, List.length_append, List.length_cons, List.length_nil, List.drop_zero, Nat.zero_add, Nat.add_zero, decT, decF, bneI_t, bneI_f, y1, z1, f, fz, e, wworks_at]

theorem bsy_Month {k : Nat} (hk : k < 12) : asS ([(AV.str (.sym ([106, 97, 110, 117, 97, 114, 121] : List UInt8))), (AV.str (.sym ([102, 101, 98, 114, 117, 97, 114, 121] : List UInt8))), (AV.str (.sym ([109, 97, 114, 99, 104] : List UInt8))), (AV.str (.sym ([97, 112, 114, 105, 108] : List UInt8))), (AV.str (.sym ([109, 97, 121] : List UInt8))), (AV.str (.sym ([106, 117, 110, 101] : List UInt8))), (AV.str (.sym ([106, 117, 108, 121] : List UInt8))), (AV.str (.sym ([97, 117, 103, 117, 115, 116] : List UInt8))), (AV.str (.sym ([115, 101, 112, 116, 101, 109, 98, 101, 114] : List UInt8))), (AV.str (.sym ([111, 99, 116, 111, 98, 101, 114] : List UInt8))), (AV.str (.sym ([110, 111, 118, 101, 109, 98, 101, 114] : List UInt8))), (AV.str (.sym ([100, 101, 99, 101, 109, 98, 101, 114] : List UInt8)))])[k]? = some (wsMonth.getD k []) := by
  have h := sy_at (ws := wsMonth) (i := k) hk
  exact h
theorem bloop_Month (bits : Int) {j n : Nat} (hj : j < 12) (hn : n ≤ (wsMonth.getD j []).length) (hw : (wsMonth.getD j []).length ≤ 20) : ∀ (r k o : Nat), k + r = 12 → o ≤ k →
    iter F_law08_WordBack_L2 [.i bits, .i ((j : Nat) : Int), .s (wsMonth.getD j []), .i ((n : Nat) : Int), .i ((o : Nat) : Int), .i ((k : Nat) : Int), .i 1, .s ([106, 97, 110, 117, 97, 114, 121] : List UInt8), .s ([102, 101, 98, 114, 117, 97, 114, 121] : List UInt8), .s ([109, 97, 114, 99, 104] : List UInt8), .s ([97, 112, 114, 105, 108] : List UInt8), .s ([109, 97, 121] : List UInt8), .s ([106, 117, 110, 101] : List UInt8), .s ([106, 117, 108, 121] : List UInt8), .s ([97, 117, 103, 117, 115, 116] : List UInt8), .s ([115, 101, 112, 116, 101, 109, 98, 101, 114] : List UInt8), .s ([111, 99, 116, 111, 98, 101, 114] : List UInt8), .s ([110, 111, 118, 101, 109, 98, 101, 114] : List UInt8), .s ([100, 101, 99, 101, 109, 98, 101, 114] : List UInt8)] = iter F_law08_WordBack_L2 [.i bits, .i ((j : Nat) : Int), .s (wsMonth.getD j []), .i ((n : Nat) : Int), .i ((o + cntF wsMonth j n k r : Nat) : Int), .i ((12 : Nat) : Int), .i 1, .s ([106, 97, 110, 117, 97, 114, 121] : List UInt8), .s ([102, 101, 98, 114, 117, 97, 114, 121] : List UInt8), .s ([109, 97, 114, 99, 104] : List UInt8), .s ([97, 112, 114, 105, 108] : List UInt8), .s ([109, 97, 121] : List UInt8), .s ([106, 117, 110, 101] : List UInt8), .s ([106, 117, 108, 121] : List UInt8), .s ([97, 117, 103, 117, 115, 116] : List UInt8), .s ([115, 101, 112, 116, 101, 109, 98, 101, 114] : List UInt8), .s ([111, 99, 116, 111, 98, 101, 114] : List UInt8), .s ([110, 111, 118, 101, 109, 98, 101, 114] : List UInt8), .s ([100, 101, 99, 101, 109, 98, 101, 114] : List UInt8)] := by
  intro r
  induction r with
  | zero =>
    intro k o hk ho
    obtain rfl : k = 12 := by omega
    rfl
  | succ r ih =>
    intro k o hk ho
    have hlt : k < 12 := by omega
    have e1 := bsy_Month hlt
    have e2 : i64 ((k : Int) + 1) = ((k + 1 : Nat) : Int) := by rw [i64_in _ (by omega)]; omega
    have e3 : i64 ((o : Int) + 1) = ((o + 1 : Nat) : Int) := by rw [i64_in _ (by omega)]; omega
    have step : ∀ o' : Nat, o' = o + (if k ≠ j ∧ n ≤ (wsMonth.getD k []).length ∧ (wsMonth.getD k []).take n = (wsMonth.getD j []).take n then 1 else 0) → F_law08_WordBack_L2 [.i bits, .i ((j : Nat) : Int), .s (wsMonth.getD j []), .i ((n : Nat) : Int), .i ((o : Nat) : Int), .i ((k : Nat) : Int), .i 1, .s ([106, 97, 110, 117, 97, 114, 121] : List UInt8), .s ([102, 101, 98, 114, 117, 97, 114, 121] : List UInt8), .s ([109, 97, 114, 99, 104] : List UInt8), .s ([97, 112, 114, 105, 108] : List UInt8), .s ([109, 97, 121] : List UInt8), .s ([106, 117, 110, 101] : List UInt8), .s ([106, 117, 108, 121] : List UInt8), .s ([97, 117, 103, 117, 115, 116] : List UInt8), .s ([115, 101, 112, 116, 101, 109, 98, 101, 114] : List UInt8), .s ([111, 99, 116, 111, 98, 101, 114] : List UInt8), .s ([110, 111, 118, 101, 109, 98, 101, 114] : List UInt8), .s ([100, 101, 99, 101, 109, 98, 101, 114] : List UInt8)] = some (.inl [.i bits, .i ((j : Nat) : Int), .s (wsMonth.getD j []), .i ((n : Nat) : Int), .i ((o' : Nat) : Int), .i ((k + 1 : Nat) : Int), .i 1, .s ([106, 97, 110, 117, 97, 114, 121] : List UInt8), .s ([102, 101, 98, 114, 117, 97, 114, 121] : List UInt8), .s ([109, 97, 114, 99, 104] : List UInt8), .s ([97, 112, 114, 105, 108] : List UInt8), .s ([109, 97, 121] : List UInt8), .s ([106, 117, 110, 101] : List UInt8), .s ([106, 117, 108, 121] : List UInt8), .s ([97, 117, 103, 117, 115, 116] : List UInt8), .s ([115, 101, 112, 116, 101, 109, 98, 101, 114] : List UInt8), .s ([111, 99, 116, 111, 98, 101, 114] : List UInt8), .s ([110, 111, 118, 101, 109, 98, 101, 114] : List UInt8), .s ([100, 101, 99, 101, 109, 98, 101, 114] : List UInt8)]) := by
      intro o' ho'
      generalize wsMonth.getD k [] = v at *
      generalize wsMonth.getD j [] = w at *
      clear ih
      unfold F_law08_WordBack_L2
      by_cases c1 : k = j
      · rw [if_neg (fun c => c.1 c1)] at ho'
        subst ho'
        simp (disch := omega) only [onI_c, onS_c, onB_c, onN_c, onL_c, Option.bind_some, Option.map_some, cond_true, cond_false, ↓onI_c, ↓onS_c, ↓onB_c, ↓onN_c, ↓onL_c, ↓Option.bind_some, ↓cond_true, ↓cond_false, decide_eq_true, decide_eq_false, Bool.not_true, Bool.not_false, Int.toNat_natCast, List.length_append, List.length_cons, List.length_nil, List.drop_zero, Nat.zero_add, Nat.add_zero, decT, decF, bneI_t, bneI_f, e1, e2, e3]
      · by_cases c2 : n ≤ v.length
        · by_cases c3 : v.take n = w.take n
          · rw [if_pos ⟨c1, c2, c3⟩] at ho'
            subst ho'
            have q := beq_t c3
            simp (disch := omega) only [onI_c, onS_c, onB_c, onN_c, onL_c, Option.bind_some, Option.map_some, cond_true, cond_false, ↓onI_c, ↓onS_c, ↓onB_c, ↓onN_c, ↓onL_c, ↓Option.bind_some, ↓cond_true, ↓cond_false, decide_eq_true, decide_eq_false, Bool.not_true, Bool.not_false, Int.toNat_natCast, List.length_append, List.length_cons, List.length_nil, List.drop_zero, Nat.zero_add, Nat.add_zero, decT, decF, bneI_t, bneI_f, e1, e2, e3, q]
          · rw [if_neg (fun c => c3 c.2.2)] at ho'
            subst ho'
            have q := beq_f c3
            simp (disch := omega) only [onI_c, onS_c, onB_c, onN_c, onL_c, Option.bind_some, Option.map_some, cond_true, cond_false, ↓onI_c, ↓onS_c, ↓onB_c, ↓onN_c, ↓onL_c, ↓Option.bind_some, ↓cond_true, ↓cond_false, decide_eq_true, decide_eq_false, Bool.not_true, Bool.not_false, Int.toNat_natCast, List.length_append, List.length_cons, List.length_nil, List.drop_zero, Nat.zero_add, Nat.add_zero, decT, decF, bneI_t, bneI_f, e1, e2, e3, q]
        · rw [if_neg (fun c => c2 c.2.1)] at ho'
          subst ho'
          simp (disch := omega) only [onI_c, onS_c, onB_c, onN_c, onL_c, Option.bind_some, Option.map_some, cond_true, cond_false, ↓onI_c, ↓onS_c, ↓onB_c, ↓onN_c, ↓onL_c, ↓Option.bind_some, ↓cond_true, ↓cond_false, decide_eq_true, decide_eq_false, Bool.not_true, Bool.not_false, Int.toNat_natCast, List.length_append, List.length_cons, List.length_nil, List.drop_zero, Nat.zero_add, Nat.add_zero, decT, decF, bneI_t, bneI_f, e1, e2, e3]
    have hu : cntF wsMonth j n k (r + 1) = (if k ≠ j ∧ n ≤ (wsMonth.getD k []).length ∧ (wsMonth.getD k []).take n = (wsMonth.getD j []).take n then 1 else 0) + cntF wsMonth j n (k + 1) r := rfl
    rw [hu, ← Nat.add_assoc, iter_next (step _ rfl)]
    exact ih (k + 1) _ (by omega) (by split <;> omega)
theorem back_Month (bits : Int) {j n : Nat} (hj : j < 12) (h1 : 1 ≤ n) (hn : n ≤ (wsMonth.getD j []).length) (hw : (wsMonth.getD j []).length ≤ 12) :
    iter F_law08_WordBack_L2 [.i bits, .i ((j : Nat) : Int), .s (wsMonth.getD j []), .i ((n : Nat) : Int), .i 0, .i 0, .i 1, .s ([106, 97, 110, 117, 97, 114, 121] : List UInt8), .s ([102, 101, 98, 114, 117, 97, 114, 121] : List UInt8), .s ([109, 97, 114, 99, 104] : List UInt8), .s ([97, 112, 114, 105, 108] : List UInt8), .s ([109, 97, 121] : List UInt8), .s ([106, 117, 110, 101] : List UInt8), .s ([106, 117, 108, 121] : List UInt8), .s ([97, 117, 103, 117, 115, 116] : List UInt8), .s ([115, 101, 112, 116, 101, 109, 98, 101, 114] : List UInt8), .s ([111, 99, 116, 111, 98, 101, 114] : List UInt8), .s ([110, 111, 118, 101, 109, 98, 101, 114] : List UInt8), .s ([100, 101, 99, 101, 109, 98, 101, 114] : List UInt8)] = some [.b true] := by
  have hb := bloop_Month bits hj hn (by omega) 12 0 0 (by omega) (by omega)
  have hcl := cntF_le wsMonth j n 12 0
  rw [Nat.zero_add] at hb
  refine Eq.trans hb ?_
  clear hb
  have hbk : backB wsMonth 12 = true := by decide +kernel
  obtain ⟨r1, r2⟩ := back_of hbk hj h1 hn (by omega)
  obtain ⟨_, r3⟩ := back_of (n := (wsMonth.getD j []).length) hbk hj (by omega) (Nat.le_refl _) hw
  have r3 := r3 (fun c => Nat.lt_irrefl _ c.2)
  have s1 := small_take (ws := wsMonth) (by decide) (show j < wsMonth.length from hj) n
  have s2 := small_take (ws := wsMonth) (by decide) (show j < wsMonth.length from hj) (wsMonth.getD j []).length
  obtain ⟨y, y1, y2, y3⟩ := cased_at (s := (wsMonth.getD j []).take n) bits (by rw [List.length_take]; omega)
  obtain ⟨z, z1, z2, z3⟩ := cased_at (s := wsMonth.getD j []) bits (by omega)
  rw [List.length_take] at y3
  rw [List.take_of_length_le (Nat.le_refl _)] at s2 r3
  have fz := fx_at fx_Month (z2.trans s2) (by omega) r3
  have fy8 := fun c => fx_at fx_Month (y2.trans s1) (by omega) (r1 c)
  have fy0 := fun c => fx_at fx_Month (y2.trans s1) (by omega) (r2 c)
  clear r1 r2 r3 s1 s2 hbk y2 z2
  generalize cntF wsMonth j n 0 12 = c at *
  generalize wsMonth.getD j [] = w at *
  have e : i64 ((j : Int) + 1) = (j : Int) + 1 := i64_in _ (by omega)
  refine iter_end ?_
  unfold F_law08_WordBack_L2
  by_cases c1 : 0 < c
  · by_cases c2 : n < w.length
    · have f := fy8 ⟨c1, c2⟩
      simp only [more, (by decide : ¬ ((0 : Int), (8 : Int)).2 = 0), if_false] at f
      clear fy8 fy0
      simp (disch := omega) only [onI_c, onS_c, onB_c, onN_c, onL_c, Option.bind_some, Option.map_some, cond_true, cond_false, ↓onI_c, ↓onS_c, ↓onB_c, ↓onN_c, ↓onL_c, ↓Option.bind_some, ↓cond_true, ↓cond_false, decide_eq_true, decide_eq_false, Bool.not_true, Bool.not_false, Int.toNat_natCast, List.length_append, List.length_cons, List.length_nil, List.drop_zero, Nat.zero_add, Nat.add_zero, decT, decF, bneI_t, bneI_f, y1, f, wworks_at]
    · have f := fy0 (fun q => c2 q.2)
      simp only [more, if_true] at f fz
      clear fy8 fy0
      simp (disch := omega) only [onI_c, onS_c, onB_c, onN_c, onL_c, Option.bind_some, Option.map_some, cond_true, cond_false, ↓onI_c, ↓onS_c, ↓onB_c, ↓onN_c, ↓onL_c, ↓Option.bind_some, ↓cond_true, ↓cond_false, decide_eq_true, decide_eq_false, Bool.not_true, Bool.not_false, Int.toNat_natCast, List.length_append, List.length_cons, List.length_nil, List.drop_zero, Nat.zero_add, Nat.add_zero, decT, decF, bneI_t, bneI_f, y1, z1, f, fz, e, wworks_at]
  · have f := fy0 (fun q => c1 q.1)
    simp only [more, if_true] at f fz
    clear fy8 fy0
    simp (disch := omega) only [onI_c, onS_c, onB_c, onN_c, onL_c, Option.bind_some, Option.map_some, cond_true, cond_false, ↓onI_c, ↓onS_c, ↓onB_c, ↓onN_c, ↓onL_c, ↓Option.bind_some, ↓cond_true, ↓cond_false, decide_eq_true, decide_eq_false, Bool.not_true, Bool.not_false, Int.toNat_natCast, List.length_append, List.length_cons, List.length_nil, List.drop_zero, Nat.zero_add, Nat.add_zero, decT, decF, bneI_t, bneI_f, y1, z1, f, fz, e, wworks_at]

theorem bsy_Line {k : Nat} (hk : k < 4) : asS ([(AV.str (.sym ([114, 117, 108, 101] : List UInt8))), (AV.str (.sym ([122, 111, 110, 101] : List UInt8))), (AV.str (.sym ([108, 105, 110, 107] : List UInt8))), (AV.str (.sym ([115, 104, 105, 102, 116] : List UInt8)))])[k]? = some (wsLine.getD k []) := by
  have h := sy_at (ws := wsLine) (i := k) hk
  exact h
theorem bloop_Line (bits : Int) {j n : Nat} (hj : j < 4) (hn : n ≤ (wsLine.getD j []).length) (hw : (wsLine.getD j []).length ≤ 20) : ∀ (r k o : Nat), k + r = 4 → o ≤ k →
    iter F_law08_WordBack_L3 [.i bits, .i ((j : Nat) : Int), .s (wsLine.getD j []), .i ((n : Nat) : Int), .i ((o : Nat) : Int), .i ((k : Nat) : Int), .i 1, .s ([114, 117, 108, 101] : List UInt8), .s ([122, 111, 110, 101] : List UInt8), .s ([108, 105, 110, 107] : List UInt8), .s ([115, 104, 105, 102, 116] : List UInt8)] = iter F_law08_WordBack_L3 [.i bits, .i ((j : Nat) : Int), .s (wsLine.getD j []), .i ((n : Nat) : Int), .i ((o + cntF wsLine j n k r : Nat) : Int), .i ((4 : Nat) : Int), .i 1, .s ([114, 117, 108, 101] : List UInt8), .s ([122, 111, 110, 101] : List UInt8), .s ([108, 105, 110, 107] : List UInt8), .s ([115, 104, 105, 102, 116] : List UInt8)] := by
  intro r
  induction r with
  | zero =>
    intro k o hk ho
    obtain rfl : k = 4 := by omega
    rfl
  | succ r ih =>
    intro k o hk ho
    have hlt : k < 4 := by omega
    have e1 := bsy_Line hlt
    have e2 : i64 ((k : Int) + 1) = ((k + 1 : Nat) : Int) := by rw [i64_in _ (by omega)]; omega
    have e3 : i64 ((o : Int) + 1) = ((o + 1 : Nat) : Int) := by rw [i64_in _ (by omega)]; omega
    have step : ∀ o' : Nat, o' = o + (if k ≠ j ∧ n ≤ (wsLine.getD k []).length ∧ (wsLine.getD k []).take n = (wsLine.getD j []).take n then 1 else 0) → F_law08_WordBack_L3 [.i bits, .i ((j : Nat) : Int), .s (wsLine.getD j []), .i ((n : Nat) : Int), .i ((o : Nat) : Int), .i ((k : Nat) : Int), .i 1, .s ([114, 117, 108, 101] : List UInt8), .s ([122, 111, 110, 101] : List UInt8), .s ([108, 105, 110, 107] : List UInt8), .s ([115, 104, 105, 102, 116] : List UInt8)] = some (.inl [.i bits, .i ((j : Nat) : Int), .s (wsLine.getD j []), .i ((n : Nat) : Int), .i ((o' : Nat) : Int), .i ((k + 1 : Nat) : Int), .i 1, .s ([114, 117, 108, 101] : List UInt8), .s ([122, 111, 110, 101] : List UInt8), .s ([108, 105, 110, 107] : List UInt8), .s ([115, 104, 105, 102, 116] : List UInt8)]) := by
      intro o' ho'
      generalize wsLine.getD k [] = v at *
      generalize wsLine.getD j [] = w at *
      clear ih
      unfold F_law08_WordBack_L3
      by_cases c1 : k = j
      · rw [if_neg (fun c => c.1 c1)] at ho'
        subst ho'
        simp (disch := omega) only [onI_c, onS_c, onB_c, onN_c, onL_c, Option.bind_some, Option.map_some, cond_true, cond_false, ↓onI_c, ↓onS_c, ↓onB_c, ↓onN_c, ↓onL_c, ↓Option.bind_some, ↓cond_true, ↓cond_false, decide_eq_true, decide_eq_false, Bool.not_true, Bool.not_false, Int.toNat_natCast, List.length_append, List.length_cons, List.length_nil, List.drop_zero, Nat.zero_add, Nat.add_zero, decT, decF, bneI_t, bneI_f, e1, e2, e3]
      · by_cases c2 : n ≤ v.length
        · by_cases c3 : v.take n = w.take n
          · rw [if_pos ⟨c1, c2, c3⟩] at ho'
            subst ho'
            have q := beq_t c3
            simp (disch := omega) only [onI_c, onS_c, onB_c, onN_c, onL_c, Option.bind_some, Option.map_some, cond_true, cond_false, ↓onI_c, ↓onS_c, ↓onB_c, ↓onN_c, ↓onL_c, ↓Option.bind_some, ↓cond_true, ↓cond_false, decide_eq_true, decide_eq_false, Bool.not_true, Bool.not_false, Int.toNat_natCast, List.length_append, List.length_cons, List.length_nil, List.drop_zero, Nat.zero_add, Nat.add_zero, decT, decF, bneI_t, bneI_f, e1, e2, e3, q]
          · rw [if_neg (fun c => c3 c.2.2)] at ho'
            subst ho'
            have q := beq_f c3
            simp (disch := omega) only [onI_c, onS_c, onB_c, onN_c, onL_c, Option.bind_some, Option.map_some, cond_true, cond_false, ↓onI_c, ↓onS_c, ↓onB_c, ↓onN_c, ↓onL_c, ↓Option.bind_some, ↓cond_true, ↓cond_false, decide_eq_true, decide_eq_false, Bool.not_true, Bool.not_false, Int.toNat_natCast, List.length_append, List.length_cons, List.length_nil, List.drop_zero, Nat.zero_add, Nat.add_zero, decT, decF, bneI_t, bneI_f, e1, e2, e3, q]
        · rw [if_neg (fun c => c2 c.2.1)] at ho'
          subst ho'
          simp (disch := omega) only [onI_c, onS_c, onB_c, onN_c, onL_c, Option.bind_some, Option.map_some, cond_true, cond_false, ↓onI_c, ↓onS_c, ↓onB_c, ↓onN_c, ↓onL_c, ↓Option.bind_some, ↓cond_true, ↓cond_false, decide_eq_true, decide_eq_false, Bool.not_true, Bool.not_false, Int.toNat_natCast, List.length_append, List.length_cons, List.length_nil, List.drop_zero, Nat.zero_add, Nat.add_zero, decT, decF, bneI_t, bneI_f, e1, e2, e3]
    have hu : cntF wsLine j n k (r + 1) = (if k ≠ j ∧ n ≤ (wsLine.getD k []).length ∧ (wsLine.getD k []).take n = (wsLine.getD j []).take n then 1 else 0) + cntF wsLine j n (k + 1) r := rfl
    rw [hu, ← Nat.add_assoc, iter_next (step _ rfl)]
    exact ih (k + 1) _ (by omega) (by split <;> omega)
theorem back_Line (bits : Int) {j n : Nat} (hj : j < 4) (h1 : 1 ≤ n) (hn : n ≤ (wsLine.getD j []).length) (hw : (wsLine.getD j []).length ≤ 12) :
    iter F_law08_WordBack_L3 [.i bits, .i ((j : Nat) : Int), .s (wsLine.getD j []), .i ((n : Nat) : Int), .i 0, .i 0, .i 1, .s ([114, 117, 108, 101] : List UInt8), .s ([122, 111, 110, 101] : List UInt8), .s ([108, 105, 110, 107] : List UInt8), .s ([115, 104, 105, 102, 116] : List UInt8)] = some [.b true] := by
  have hb := bloop_Line bits hj hn (by omega) 4 0 0 (by omega) (by omega)
  have hcl := cntF_le wsLine j n 4 0
  rw [Nat.zero_add] at hb
  refine Eq.trans hb ?_
  clear hb
  have hbk : backB wsLine 4 = true := by decide +kernel
  obtain ⟨r1, r2⟩ := back_of hbk hj h1 hn (by omega)
  obtain ⟨_, r3⟩ := back_of (n := (wsLine.getD j []).length) hbk hj (by omega) (Nat.le_refl _) hw
  have r3 := r3 (fun c => Nat.lt_irrefl _ c.2)
  have s1 := small_take (ws := wsLine) (by decide) (show j < wsLine.length from hj) n
  have s2 := small_take (ws := wsLine) (by decide) (show j < wsLine.length from hj) (wsLine.getD j []).length
  obtain ⟨y, y1, y2, y3⟩ := cased_at (s := (wsLine.getD j []).take n) bits (by rw [List.length_take]; omega)
  obtain ⟨z, z1, z2, z3⟩ := cased_at (s := wsLine.getD j []) bits (by omega)
  rw [List.length_take] at y3
  rw [List.take_of_length_le (Nat.le_refl _)] at s2 r3
  have fz := fx_at fx_Line (z2.trans s2) (by omega) r3
  have fy8 := fun c => fx_at fx_Line (y2.trans s1) (by omega) (r1 c)
  have fy0 := fun c => fx_at fx_Line (y2.trans s1) (by omega) (r2 c)
  clear r1 r2 r3 s1 s2 hbk y2 z2
  generalize cntF wsLine j n 0 4 = c at *
  generalize wsLine.getD j [] = w at *
  have e : i64 ((j : Int) + 1) = (j : Int) + 1 := i64_in _ (by omega)
  refine iter_end ?_
  unfold F_law08_WordBack_L3
  by_cases c1 : 0 < c
  · by_cases c2 : n < w.length
    · have f := fy8 ⟨c1, c2⟩
      simp only [more, (by decide : ¬ ((0 : Int), (8 : Int)).2 = 0), if_false] at f
      clear fy8 fy0
      simp (disch := omega) only [onI_c, onS_c, onB_c, onN_c, onL_c, Option.bind_some, Option.map_some, cond_true, cond_false, ↓onI_c, ↓onS_c, ↓onB_c, ↓onN_c, ↓onL_c, ↓Option.bind_some, ↓cond_true, ↓cond_false, decide_eq_true, decide_eq_false, Bool.not_true, Bool.not_false, Int.toNat_natCast, List.length_append, List.length_cons, List.length_nil, List.drop_zero, Nat.zero_add, Nat.add_zero, decT, decF, bneI_t, bneI_f, y1, f, wworks_at]
    · have f := fy0 (fun q => c2 q.2)
      simp only [more, if_true] at f fz
      clear fy8 fy0
      simp (disch := omega) only [onI_c, onS_c, onB_c, onN_c, onL_c, Option.bind_some, Option.map_some, cond_true, cond_false, ↓onI_c, ↓onS_c, ↓onB_c, ↓onN_c, ↓onL_c, ↓Option.bind_some, ↓cond_true, ↓cond_false, decide_eq_true, decide_eq_false, Bool.not_true, Bool.not_false, Int.toNat_natCast, List.length_append, List.length_cons, List.length_nil, List.drop_zero, Nat.zero_add, Nat.add_zero, decT, decF, bneI_t, bneI_f, y1, z1, f, fz, e, wworks_at]
  · have f := fy0 (fun q => c1 q.1)
    simp only [more, if_true] at f fz
    clear fy8 fy0
    simp (disch := omega) only [onI_c, onS_c, onB_c, onN_c, onL_c, Option.bind_some, Option.map_some, cond_true, cond_false, ↓onI_c, ↓onS_c, ↓onB_c, ↓onN_c, ↓onL_c, ↓Option.bind_some, ↓cond_true, ↓cond_false, decide_eq_true, decide_eq_false, Bool.not_true, Bool.not_false, Int.toNat_natCast, List.length_append, List.length_cons, List.length_nil, List.drop_zero, Nat.zero_add, Nat.add_zero, decT, decF, bneI_t, bneI_f, y1, z1, f, fz, e, wworks_at]

theorem wordBack (a b d bits : Int) (ha : 0 ≤ a ∧ a ≤ 255) (hb : 0 ≤ b ∧ b ≤ 255) (hd : 0 ≤ d ∧ d ≤ 255) : F_law08_WordBack [.i a, .i b, .i d, .i bits] = some [.b true] := by
  have ea : i64 a = a := i64_in _ (by omega)
  have eb : i64 b = b := i64_in _ (by omega)
  have ed : i64 d = d := i64_in _ (by omega)
  have m4 : Int.tmod a 4 = a % 4 := tmod_nn ha.1
  have go : ∀ (w : List UInt8), 0 < w.length → w.length ≤ 20 → ∃ n : Nat, i64 (1 + Int.tmod d ((w.length : Nat) : Int)) = ((n : Nat) : Int) ∧ 1 ≤ n ∧ n ≤ w.length ∧ ((((w.length : Nat) : Int)) != 0) = true := by
    intro w h1 h2
    have q1 := Int.emod_nonneg d (show ((w.length : Nat) : Int) ≠ 0 by omega)
    have q2 := Int.emod_lt_of_pos d (show (0 : Int) < ((w.length : Nat) : Int) by omega)
    refine ⟨(1 + d % ((w.length : Nat) : Int)).toNat, by rw [tmod_nn hd.1, i64_in _ (by omega)]; omega, by omega, by omega, bneI_t (by omega)⟩
  obtain ⟨q, hq⟩ : ∃ q : Int, a % 4 = q := ⟨_, rfl⟩
  have hq4 : 0 ≤ q ∧ q < 4 := by omega
  have hq' : q = 0 ∨ q = 1 ∨ q = 2 ∨ q = 3 := by omega
  unfold F_law08_WordBack
  clear hq4
  rcases hq' with h | h | h | h
  · rw [h] at hq
    obtain ⟨j, hj⟩ : ∃ j : Nat, Int.tmod b 4 = ((j : Nat) : Int) := ⟨(b % 4).toNat, by rw [tmod_nn hb.1]; omega⟩
    have hj2 : j < 4 := by rw [tmod_nn hb.1] at hj; omega
    have hl := lit_Line hj2
    obtain ⟨w1, w2, w3⟩ := wl_Line hj2
    have w4 : (wsLine.getD j []).length ≤ 12 := (by decide : ∀ w ∈ wsLine, w.length ≤ 12) _ w1
    obtain ⟨n, n1, n2, n3, n4⟩ := go _ w2 w3
    have hm := back_Line bits hj2 n2 n3 w4
    have hq0 : Int.tmod a 4 = 0 := by rw [m4, hq]
    clear go w1 m4 hq h w4
    generalize wsLine.getD j [] = w at *
    simp (disch := omega) only [onI_c, onS_c, onB_c, onN_c, onL_c, Option.bind_some, Option.map_some, cond_true, cond_false, ↓onI_c, ↓onS_c, ↓onB_c, ↓onN_c, ↓onL_c, ↓Option.bind_some, ↓cond_true, ↓cond_false, decide_eq_true, decide_eq_false, Bool.not_true, Bool.not_false, Int.toNat_natCast, List.length_append, List.length_cons, List.length_nil, List.drop_zero, Nat.zero_add, Nat.add_zero, decT, decF, bneI_t, bneI_f, ea, eb, ed, hq0, hj, hl, n1, n4, hm]
  · rw [h] at hq
    obtain ⟨j, hj⟩ : ∃ j : Nat, Int.tmod b 12 = ((j : Nat) : Int) := ⟨(b % 12).toNat, by rw [tmod_nn hb.1]; omega⟩
    have hj2 : j < 12 := by rw [tmod_nn hb.1] at hj; omega
    have hl := lit_Month hj2
    obtain ⟨w1, w2, w3⟩ := wl_Month hj2
    have w4 : (wsMonth.getD j []).length ≤ 12 := (by decide : ∀ w ∈ wsMonth, w.length ≤ 12) _ w1
    obtain ⟨n, n1, n2, n3, n4⟩ := go _ w2 w3
    have hm := back_Month bits hj2 n2 n3 w4
    have hq0 : Int.tmod a 4 = 1 := by rw [m4, hq]
    clear go w1 m4 hq h w4
    generalize wsMonth.getD j [] = w at *
    simp (disch := omega) only [onI_c, onS_c, onB_c, onN_c, onL_c, Option.bind_some, Option.map_some, cond_true, cond_false, ↓onI_c, ↓onS_c, ↓onB_c, ↓onN_c, ↓onL_c, ↓Option.bind_some, ↓cond_true, ↓cond_false, decide_eq_true, decide_eq_false, Bool.not_true, Bool.not_false, Int.toNat_natCast, List.length_append, List.length_cons, List.length_nil, List.drop_zero, Nat.zero_add, Nat.add_zero, decT, decF, bneI_t, bneI_f, ea, eb, ed, hq0, hj, hl, n1, n4, hm]
  · rw [h] at hq
    obtain ⟨j, hj⟩ : ∃ j : Nat, Int.tmod b 7 = ((j : Nat) : Int) := ⟨(b % 7).toNat, by rw [tmod_nn hb.1]; omega⟩
    have hj2 : j < 7 := by rw [tmod_nn hb.1] at hj; omega
    have hl := lit_Week hj2
    obtain ⟨w1, w2, w3⟩ := wl_Week hj2
    have w4 : (wsWeek.getD j []).length ≤ 12 := (by decide : ∀ w ∈ wsWeek, w.length ≤ 12) _ w1
    obtain ⟨n, n1, n2, n3, n4⟩ := go _ w2 w3
    have hm := back_Week bits hj2 n2 n3 w4
    have hq0 : Int.tmod a 4 = 2 := by rw [m4, hq]
    clear go w1 m4 hq h w4
    generalize wsWeek.getD j [] = w at *
    simp (disch := omega) only [onI_c, onS_c, onB_c, onN_c, onL_c, Option.bind_some, Option.map_some, cond_true, cond_false, ↓onI_c, ↓onS_c, ↓onB_c, ↓onN_c, ↓onL_c, ↓Option.bind_some, ↓cond_true, ↓cond_false, decide_eq_true, decide_eq_false, Bool.not_true, Bool.not_false, Int.toNat_natCast, List.length_append, List.length_cons, List.length_nil, List.drop_zero, Nat.zero_add, Nat.add_zero, decT, decF, bneI_t, bneI_f, ea, eb, ed, hq0, hj, hl, n1, n4, hm]
  · rw [h] at hq
    obtain ⟨j, hj⟩ : ∃ j : Nat, Int.tmod b 2 = ((j : Nat) : Int) := ⟨(b % 2).toNat, by rw [tmod_nn hb.1]; omega⟩
    have hj2 : j < 2 := by rw [tmod_nn hb.1] at hj; omega
    have hl := lit_To hj2
    obtain ⟨w1, w2, w3⟩ := wl_To hj2
    have w4 : (wsTo.getD j []).length ≤ 12 := (by decide : ∀ w ∈ wsTo, w.length ≤ 12) _ w1
    obtain ⟨n, n1, n2, n3, n4⟩ := go _ w2 w3
    have hm := back_To bits hj2 n2 n3 w4
    have hq0 : Int.tmod a 4 = 3 := by rw [m4, hq]
    clear go w1 m4 hq h w4
    generalize wsTo.getD j [] = w at *
    simp (disch := omega) only [onI_c, onS_c, onB_c, onN_c, onL_c, Option.bind_some, Option.map_some, cond_true, cond_false, ↓onI_c, ↓onS_c, ↓onB_c, ↓onN_c, ↓onL_c, ↓Option.bind_some, ↓cond_true, ↓cond_false, decide_eq_true, decide_eq_false, Bool.not_true, Bool.not_false, Int.toNat_natCast, List.length_append, List.length_cons, List.length_nil, List.drop_zero, Nat.zero_add, Nat.add_zero, decT, decF, bneI_t, bneI_f, ea, eb, ed, hq0, hj, hl, n1, n4, hm]
theorem lawP_WordBack {dats : List Dat} (h : DatOk tau [.int .u8, .int .u8, .int .u8, .int .u16] dats) : F_law08_WordBack dats = some [.b true] := by
  obtain ⟨a, r, rfl, ha, b, r2, rfl, hb, d, r3, rfl, hd, c, r4, rfl, hc, rfl⟩ := h
  exact wordBack a b d c (wf_u8 ha) (wf_u8 hb) (wf_u8 hd)
end Go.Proofs.YtdpjkapaphelhaaDoor
