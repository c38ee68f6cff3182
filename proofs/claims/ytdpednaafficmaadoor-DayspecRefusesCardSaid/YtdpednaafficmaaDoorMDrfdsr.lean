/-
  Days as text: what is no form of days is refused.
-/
import Derived.Test.YtdpednaafficmaaDoorTdsr
import Derived.Test.YtdpednaafficmaaDoorAx32
import Derived.Test.YtdpednaafficmaaDoorHIdxAny
namespace Go.Proofs.YtdpednaafficmaaDoor
open Go.Ax Go.Lib
set_option linter.all false
set_option maxHeartbeats 4000000
set_option maxRecDepth 100000
attribute [local congr] cond_cong bind_cong onI_cong onB_cong onS_cong onN_cong onL_cong
theorem idx_none {chars : List UInt8} : ∀ {u : List UInt8}, (∀ b ∈ u, chars.contains b = false) → indexAny u chars = -1
  | [], _ => rfl
  | b :: u, h => by
    unfold indexAny
    rw [h b (List.mem_cons_self ..), idx_none fun c hc => h c (List.mem_cons_of_mem _ hc)]
    rfl
theorem idx_at {chars : List UInt8} {o : UInt8} (ho : chars.contains o = true) {r : List UInt8} : ∀ {u : List UInt8}, (∀ b ∈ u, chars.contains b = false) → indexAny (u ++ o :: r) chars = (u.length : Int)
  | [], _ => by
    show indexAny (o :: r) chars = 0
    unfold indexAny
    rw [ho]; rfl
  | b :: u, h => by
    show indexAny (b :: (u ++ o :: r)) chars = _
    unfold indexAny
    rw [h b (List.mem_cons_self ..), idx_at ho fun c hc => h c (List.mem_cons_of_mem _ hc)]
    have hne : ((u.length : Int) == -1) = false := by
      rw [beq_eq_false_iff_ne]; omega
    rw [hne]
    simp

def noOp (s : List UInt8) : Prop := ∀ b ∈ s, ([60, 62] : List UInt8).contains b = false
theorem parse_op {u num : List UInt8} {o : UInt8} {kind : Int} (ho : (o = 62 ∧ kind = 3) ∨ (o = 60 ∧ kind = 4)) (hu : noOp u) (hl : u.length ≤ 100) (hn : num.length ≤ 100) {a b c e : Int}
    (hb : F_dayspec_between [.i kind, .s u, .s num] = some [.i a, .i b, .i c, .i e]) : F_dayspec_Parse [.s (u ++ o :: 61 :: num)] = some [.i a, .i b, .i c, .i e] := by
  have hc : ([60, 62] : List UInt8).contains o = true := by
    rcases ho with ⟨rfl, _⟩ | ⟨rfl, _⟩ <;> decide
  have hlen : (u ++ o :: 61 :: num).length = u.length + 2 + num.length := by simp; omega
  have h1 := idxAny_at (s := u ++ o :: 61 :: num) (by omega)
  rw [idx_at hc hu] at h1
  have g1 : ((u ++ o :: 61 :: num).getD u.length 0) = o := by simp [List.getD]
  have g2 : ((u ++ o :: 61 :: num).getD (u.length + 1) 0) = 61 := by simp [List.getD]
  have t1 : List.take u.length (u ++ o :: 61 :: num) = u := by simp
  have t2 : List.take ((u ++ o :: 61 :: num).length - (u.length + 2)) (List.drop (u.length + 2) (u ++ o :: 61 :: num)) = num := by
    rw [hlen, List.drop_append]
    simp
    rw [List.drop_of_length_le (by omega)]
    simp
  have e1 : i64 ((u.length : Int) + 1) = ((u.length + 1 : Nat) : Int) := by rw [i64_in _ (by omega)]; omega
  have e2 : i64 ((u.length : Int) + 2) = ((u.length + 2 : Nat) : Int) := by rw [i64_in _ (by omega)]; omega
  have hk : F__dayspec_operator__kind [.i ((o.toNat : Nat) : Int), .i (((61 : UInt8).toNat : Nat) : Int)] = some [.i kind] := by
    rcases ho with ⟨rfl, rfl⟩ | ⟨rfl, rfl⟩ <;> rfl
  have hkn : ¬ kind = 0 := by rcases ho with ⟨_, rfl⟩ | ⟨_, rfl⟩ <;> decide
  clear ho hc hu
  generalize hs : u ++ o :: 61 :: num = s at *
  clear hs
  unfold F_dayspec_Parse
  simp (disch := omega) only [onI_c, onS_c, onB_c, onN_c, onL_c, Option.bind_some, Option.map_some, cond_true, cond_false, ↓onI_c, ↓onS_c, ↓onB_c, ↓onN_c, ↓onL_c, ↓Option.bind_some, ↓cond_true, ↓cond_false, decide_eq_true, decide_eq_false, Bool.not_true, Bool.not_false, Int.toNat_natCast, List.length_append, List.length_cons, List.length_nil, List.drop_zero, Nat.zero_add, Nat.add_zero, decT, decF, bneI_t, bneI_f, h1, e1, e2, g1, g2, hk, t1, t2, hb]
theorem kinds_at : F_dayform_kinds [] = some [.b false, .b false, .b false, .b true, .b true, .b false, .b true, .b true, .b true, .b true] := by kernel_rfl
def Bad (k w d : Int) : Prop := k < 1 ∨ 4 < k ∨ (k = 1 ∧ w ≠ 0) ∨ (k = 1 ∧ w = 0 ∧ d < 1) ∨ (k = 1 ∧ w = 0 ∧ 31 < d) ∨ (k = 2 ∧ w < 0) ∨ (k = 2 ∧ 6 < w) ∨ (k = 2 ∧ 0 ≤ w ∧ w ≤ 6 ∧ d ≠ 0) ∨
  (k = 3 ∧ w < 0) ∨ (k = 3 ∧ 6 < w) ∨ (k = 3 ∧ 0 ≤ w ∧ w ≤ 6 ∧ d < 1) ∨ (k = 3 ∧ 0 ≤ w ∧ w ≤ 6 ∧ 31 < d) ∨ (k = 4 ∧ w < 0) ∨ (k = 4 ∧ 6 < w) ∨ (k = 4 ∧ 0 ≤ w ∧ w ≤ 6 ∧ d < 1) ∨ (k = 4 ∧ 0 ≤ w ∧ w ≤ 6 ∧ 31 < d)
theorem check_bad {k w d : Int} (h : Bad k w d) : F_dayform_Check [.i k, .i w, .i d] = some [.i 2] := by
  unfold F_dayform_Check
  rcases h with h | h | ⟨rfl, h⟩ | ⟨rfl, rfl, h⟩ | ⟨rfl, rfl, h⟩ | ⟨rfl, h⟩ | ⟨rfl, h⟩ | ⟨rfl, h0, h6, h⟩ | ⟨rfl, h⟩ | ⟨rfl, h⟩ | ⟨rfl, h0, h6, h⟩ | ⟨rfl, h0, h6, h⟩ | ⟨rfl, h⟩ | ⟨rfl, h⟩ | ⟨rfl, h0, h6, h⟩ | ⟨rfl, h0, h6, h⟩
  · simp (disch := omega) only [onI_c, onS_c, onB_c, onN_c, onL_c, Option.bind_some, Option.map_some, cond_true, cond_false, ↓onI_c, ↓onS_c, ↓onB_c, ↓onN_c, ↓onL_c, ↓Option.bind_some, ↓cond_true, ↓cond_false, decide_eq_true, decide_eq_false, Bool.not_true, Bool.not_false, Int.toNat_natCast, List.length_append, List.length_cons, List.length_nil, List.drop_zero, Nat.zero_add, Nat.add_zero, decT, decF, bneI_t, bneI_f, kinds_at]
  · by_cases h1 : k < 1
    · omega
    · simp (disch := omega) only [onI_c, onS_c, onB_c, onN_c, onL_c, Option.bind_some, Option.map_some, cond_true, cond_false, ↓onI_c, ↓onS_c, ↓onB_c, ↓onN_c, ↓onL_c, ↓Option.bind_some, ↓cond_true, ↓cond_false, decide_eq_true, decide_eq_false, Bool.not_true, Bool.not_false, Int.toNat_natCast, List.length_append, List.length_cons, List.length_nil, List.drop_zero, Nat.zero_add, Nat.add_zero, decT, decF, bneI_t, bneI_f, kinds_at]
  all_goals simp (disch := omega) only [onI_c, onS_c, onB_c, onN_c, onL_c, Option.bind_some, Option.map_some, cond_true, cond_false, ↓onI_c, ↓onS_c, ↓onB_c, ↓onN_c, ↓onL_c, ↓Option.bind_some, ↓cond_true, ↓cond_false, decide_eq_true, decide_eq_false, Bool.not_true, Bool.not_false, Int.toNat_natCast, List.length_append, List.length_cons, List.length_nil, List.drop_zero, Nat.zero_add, Nat.add_zero, decT, decF, bneI_t, bneI_f, kinds_at]

theorem print_bad {k w d : Int} (h : Bad k w d) : F_dayspec_Print [.i k, .i w, .i d] = some [.s [], .i 2] := by
  unfold F_dayspec_Print
  rw [onI_c, onI_c, onI_c, check_bad h]; rfl
/-! Each form, and what is put in front of it or behind it. -/
noncomputable def refu (t : List UInt8) : Bool := match F_dayspec_Parse [.s t] with
  | some [.i a, .i b, .i c, .i e] => decide (a = 0) && decide (b = 0) && decide (c = 0) && (decide (e = 5) || decide (e = 8))
  | _ => false
noncomputable def six (s : List UInt8) : Bool := refu (s ++ [32]) && refu ([32] ++ s) && refu (s ++ [61]) && refu (s ++ [62, 61]) && refu ([108, 97, 115, 116] ++ s) && refu (s ++ [0])
theorem refu_of {t : List UInt8} (h : refu t = true) : ∃ e : Int, F_dayspec_Parse [.s t] = some [.i 0, .i 0, .i 0, .i e] ∧ (bif (!decide (e = 5)) then (bif (!decide (e = 8)) then (some true) else (some false)) else (some false)) = some false := by
  unfold refu at h
  split at h
  · rename_i a b c e h1
    simp only [Bool.and_eq_true, Bool.or_eq_true, decide_eq_true_eq] at h
    obtain ⟨⟨⟨rfl, rfl⟩, rfl⟩, h⟩ := h
    exact ⟨e, h1, by rcases h with rfl | rfl <;> rfl⟩
  · cases h
/-- What the law asks where one byte is put behind. -/
def Okc (pre : Bool) (c : UInt8) (o : Option (List Dat)) : Prop := ∃ a b d e : Int, o = some [.i a, .i b, .i d, .i e] ∧ ((e = 0 ∧ ((48 ≤ c.toNat ∧ c.toNat ≤ 57) ∨ pre = true)) ∨ (e ≠ 0 ∧ a = 0 ∧ b = 0 ∧ d = 0))
noncomputable def okc (pre : Bool) (c : UInt8) (o : Option (List Dat)) : Bool := match o with
  | some [.i a, .i b, .i d, .i e] => (decide (e = 0) && (decide (48 ≤ c.toNat ∧ c.toNat ≤ 57) || pre)) || (!decide (e = 0) && (decide (a = 0) && decide (b = 0) && decide (d = 0)))
  | _ => false
theorem okc_of {pre : Bool} {c : UInt8} {o : Option (List Dat)} (h : okc pre c o = true) : Okc pre c o := by
  unfold okc at h
  split at h
  · rename_i a b d e
    simp only [Bool.and_eq_true, Bool.or_eq_true, Bool.not_eq_true', decide_eq_true_eq, decide_eq_false_iff_not] at h
    refine ⟨a, b, d, e, rfl, ?_⟩
    rcases h with ⟨h1, h2⟩ | ⟨h1, ⟨h2, h3⟩, h4⟩
    · exact .inl ⟨h1, h2⟩
    · exact .inr ⟨h1, h2, h3, h4⟩
  · cases h
theorem bytes_all {p : UInt8 → Bool} (h : (List.range 256).all (fun n => p (UInt8.ofNat n)) = true) (b : UInt8) : p b = true := by
  have := List.all_eq_true.1 h b.toNat (List.mem_range.2 (UInt8.toNat_lt b))
  rwa [UInt8.ofNat_toNat] at this
def dig (y : Nat) : List UInt8 := if y < 10 then [UInt8.ofNat (48 + y)] else [UInt8.ofNat (48 + y / 10), UInt8.ofNat (48 + y % 10)]
def wkS : List (List UInt8) := [[83, 117, 110], [77, 111, 110], [84, 117, 101], [87, 101, 100], [84, 104, 117], [70, 114, 105], [83, 97, 116]]
/-- A day in digits, and one byte. -/
noncomputable def numC (y : Nat) (c : UInt8) : Bool := match F_dayspec_dayNumber [.s (dig y ++ [c])] with
  | some [.i d, .i e] => !decide (e = 0) || decide (48 ≤ c.toNat ∧ c.toNat ≤ 57)
  | _ => false
/-- The form of a kind by numbers, and its string. -/
noncomputable def prt (k w y : Nat) (s : List UInt8) : Bool := match F_law09_Made [.i (k : Int), .i (w : Int), .i (y : Int)] with
  | some [.i a, .i b, .i c] => (match F_dayspec_Print [.i a, .i b, .i c] with
    | some [.s s', .i e] => decide (e = 0) && decide (s' = s)
    | _ => false)
  | _ => false
theorem prt_of {k w y : Nat} {s : List UInt8} (h : prt k w y s = true) : ∃ a b c : Int, F_law09_Made [.i (k : Int), .i (w : Int), .i (y : Int)] = some [.i a, .i b, .i c] ∧ F_dayspec_Print [.i a, .i b, .i c] = some [.s s, .i 0] := by
  unfold prt at h
  split at h
  · rename_i a b c h1
    split at h
    · rename_i s' e h2
      simp only [Bool.and_eq_true, decide_eq_true_eq] at h
      obtain ⟨rfl, rfl⟩ := h
      exact ⟨a, b, c, h1, h2⟩
    · cases h
  · cases h
noncomputable def pre (s : List UInt8) : Option Bool := match F_strings_HasPrefix [.s s, .s [108, 97, 115, 116]] with
  | some [.b p] => some p
  | _ => none
theorem pre_of {s : List UInt8} {p : Bool} (h : pre s = some p) : F_strings_HasPrefix [.s s, .s [108, 97, 115, 116]] = some [.b p] := by
  unfold pre at h
  split at h
  · rename_i q h1; cases h; exact h1
  · cases h
/-- All that the law asks of one form. -/
structure Form (k w y : Nat) (c : UInt8) : Prop where
  out : ∃ (a b d : Int) (s : List UInt8) (p : Bool), F_law09_Made [.i (k : Int), .i (w : Int), .i (y : Int)] = some [.i a, .i b, .i d] ∧ F_dayspec_Print [.i a, .i b, .i d] = some [.s s, .i 0] ∧ s.length ≤ 20 ∧ six s = true ∧
    F_strings_HasPrefix [.s s, .s [108, 97, 115, 116]] = some [.b p] ∧ Okc p c (F_dayspec_Parse [.s (s ++ [c])])
/-! By the kernel. -/
noncomputable def k0 (w y : Nat) : Bool := prt 0 w y (dig (y + 1))
noncomputable def f0 (y : Nat) : Bool := six (dig (y + 1)) && decide (pre (dig (y + 1)) = some false) && (List.range 256).all fun n => okc false (UInt8.ofNat n) (F_dayspec_Parse [.s (dig (y + 1) ++ [UInt8.ofNat n])])
noncomputable def k1 (w y : Nat) : Bool := prt 1 w y ([108, 97, 115, 116] ++ wkS.getD w [])
noncomputable def f1 (w : Nat) : Bool := six ([108, 97, 115, 116] ++ wkS.getD w []) && decide (pre ([108, 97, 115, 116] ++ wkS.getD w []) = some true)
noncomputable def g1 (w a b : Nat) : Bool := (List.range (b - a)).all fun n => okc true (UInt8.ofNat (a + n)) (F_dayspec_Parse [.s (([108, 97, 115, 116] ++ wkS.getD w []) ++ [UInt8.ofNat (a + n)])])
noncomputable def k2 (w y : Nat) : Bool := prt 2 w y (wkS.getD w [] ++ 62 :: 61 :: dig (y + 1)) && six (wkS.getD w [] ++ 62 :: 61 :: dig (y + 1)) && decide (pre (wkS.getD w [] ++ 62 :: 61 :: dig (y + 1)) = some false)
noncomputable def k3 (w y : Nat) : Bool := prt 3 w y (wkS.getD w [] ++ 60 :: 61 :: dig (y + 1)) && six (wkS.getD w [] ++ 60 :: 61 :: dig (y + 1)) && decide (pre (wkS.getD w [] ++ 60 :: 61 :: dig (y + 1)) = some false)
noncomputable def wkOk (w : Nat) : Bool := (match F_word_Week [.s (wkS.getD w [])] with | some [.i a, .i e] => decide (a = (w : Int)) && decide (e = 0) | _ => false) && (wkS.getD w []).all (fun b => !([60, 62] : List UInt8).contains b) && decide ((wkS.getD w []).length = 3)
noncomputable def numW (y : Nat) : Bool := ((List.range 256).all fun n => numC (y + 1) (UInt8.ofNat n)) && decide ((dig (y + 1)).length ≤ 2)
theorem k0_0 : ((List.range 31).all fun y => k0 0 y) = true := by kernel_rfl
theorem k0_1 : ((List.range 31).all fun y => k0 1 y) = true := by kernel_rfl
theorem k0_2 : ((List.range 31).all fun y => k0 2 y) = true := by kernel_rfl
theorem k0_3 : ((List.range 31).all fun y => k0 3 y) = true := by kernel_rfl
theorem k0_4 : ((List.range 31).all fun y => k0 4 y) = true := by kernel_rfl
theorem k0_5 : ((List.range 31).all fun y => k0 5 y) = true := by kernel_rfl
theorem k0_6 : ((List.range 31).all fun y => k0 6 y) = true := by kernel_rfl
theorem k1_0 : ((List.range 31).all fun y => k1 0 y) = true := by kernel_rfl
theorem k1_1 : ((List.range 31).all fun y => k1 1 y) = true := by kernel_rfl
theorem k1_2 : ((List.range 31).all fun y => k1 2 y) = true := by kernel_rfl
theorem k1_3 : ((List.range 31).all fun y => k1 3 y) = true := by kernel_rfl
theorem k1_4 : ((List.range 31).all fun y => k1 4 y) = true := by kernel_rfl
theorem k1_5 : ((List.range 31).all fun y => k1 5 y) = true := by kernel_rfl
theorem k1_6 : ((List.range 31).all fun y => k1 6 y) = true := by kernel_rfl
theorem k2_0 : ((List.range 31).all fun y => k2 0 y) = true := by kernel_rfl
theorem k2_1 : ((List.range 31).all fun y => k2 1 y) = true := by kernel_rfl
theorem k2_2 : ((List.range 31).all fun y => k2 2 y) = true := by kernel_rfl
theorem k2_3 : ((List.range 31).all fun y => k2 3 y) = true := by kernel_rfl
theorem k2_4 : ((List.range 31).all fun y => k2 4 y) = true := by kernel_rfl
theorem k2_5 : ((List.range 31).all fun y => k2 5 y) = true := by kernel_rfl
theorem k2_6 : ((List.range 31).all fun y => k2 6 y) = true := by kernel_rfl
theorem k3_0 : ((List.range 31).all fun y => k3 0 y) = true := by kernel_rfl
theorem k3_1 : ((List.range 31).all fun y => k3 1 y) = true := by kernel_rfl
theorem k3_2 : ((List.range 31).all fun y => k3 2 y) = true := by kernel_rfl
theorem k3_3 : ((List.range 31).all fun y => k3 3 y) = true := by kernel_rfl
theorem k3_4 : ((List.range 31).all fun y => k3 4 y) = true := by kernel_rfl
theorem k3_5 : ((List.range 31).all fun y => k3 5 y) = true := by kernel_rfl
theorem k3_6 : ((List.range 31).all fun y => k3 6 y) = true := by kernel_rfl
theorem wk_0 : ((List.range 7).all fun y => wkOk y) = true := by kernel_rfl
theorem f1_0 : ((List.range 7).all fun y => f1 y) = true := by kernel_rfl
theorem f0_0 : f0 0 = true := by kernel_rfl
theorem f0_1 : f0 1 = true := by kernel_rfl
theorem f0_2 : f0 2 = true := by kernel_rfl
theorem f0_3 : f0 3 = true := by kernel_rfl
theorem f0_4 : f0 4 = true := by kernel_rfl
theorem f0_5 : f0 5 = true := by kernel_rfl
theorem f0_6 : f0 6 = true := by kernel_rfl
theorem f0_7 : f0 7 = true := by kernel_rfl
theorem f0_8 : f0 8 = true := by kernel_rfl
theorem f0_9 : f0 9 = true := by kernel_rfl
theorem f0_10 : f0 10 = true := by kernel_rfl
theorem f0_11 : f0 11 = true := by kernel_rfl
theorem f0_12 : f0 12 = true := by kernel_rfl
theorem f0_13 : f0 13 = true := by kernel_rfl
theorem f0_14 : f0 14 = true := by kernel_rfl
theorem f0_15 : f0 15 = true := by kernel_rfl
theorem f0_16 : f0 16 = true := by kernel_rfl
theorem f0_17 : f0 17 = true := by kernel_rfl
theorem f0_18 : f0 18 = true := by kernel_rfl
theorem f0_19 : f0 19 = true := by kernel_rfl
theorem f0_20 : f0 20 = true := by kernel_rfl
theorem f0_21 : f0 21 = true := by kernel_rfl
theorem f0_22 : f0 22 = true := by kernel_rfl
theorem f0_23 : f0 23 = true := by kernel_rfl
theorem f0_24 : f0 24 = true := by kernel_rfl
theorem f0_25 : f0 25 = true := by kernel_rfl
theorem f0_26 : f0 26 = true := by kernel_rfl
theorem f0_27 : f0 27 = true := by kernel_rfl
theorem f0_28 : f0 28 = true := by kernel_rfl
theorem f0_29 : f0 29 = true := by kernel_rfl
theorem f0_30 : f0 30 = true := by kernel_rfl
theorem nu_0 : numW 0 = true := by kernel_rfl
theorem nu_1 : numW 1 = true := by kernel_rfl
theorem nu_2 : numW 2 = true := by kernel_rfl
theorem nu_3 : numW 3 = true := by kernel_rfl
theorem nu_4 : numW 4 = true := by kernel_rfl
theorem nu_5 : numW 5 = true := by kernel_rfl
theorem nu_6 : numW 6 = true := by kernel_rfl
theorem nu_7 : numW 7 = true := by kernel_rfl
theorem nu_8 : numW 8 = true := by kernel_rfl
theorem nu_9 : numW 9 = true := by kernel_rfl
theorem nu_10 : numW 10 = true := by kernel_rfl
theorem nu_11 : numW 11 = true := by kernel_rfl
theorem nu_12 : numW 12 = true := by kernel_rfl
theorem nu_13 : numW 13 = true := by kernel_rfl
theorem nu_14 : numW 14 = true := by kernel_rfl
theorem nu_15 : numW 15 = true := by kernel_rfl
theorem nu_16 : numW 16 = true := by kernel_rfl
theorem nu_17 : numW 17 = true := by kernel_rfl
theorem nu_18 : numW 18 = true := by kernel_rfl
theorem nu_19 : numW 19 = true := by kernel_rfl
theorem nu_20 : numW 20 = true := by kernel_rfl
theorem nu_21 : numW 21 = true := by kernel_rfl
theorem nu_22 : numW 22 = true := by kernel_rfl
theorem nu_23 : numW 23 = true := by kernel_rfl
theorem nu_24 : numW 24 = true := by kernel_rfl
theorem nu_25 : numW 25 = true := by kernel_rfl
theorem nu_26 : numW 26 = true := by kernel_rfl
theorem nu_27 : numW 27 = true := by kernel_rfl
theorem nu_28 : numW 28 = true := by kernel_rfl
theorem nu_29 : numW 29 = true := by kernel_rfl
theorem nu_30 : numW 30 = true := by kernel_rfl
theorem g1_0_0 : g1 0 0 64 = true := by kernel_rfl
theorem g1_0_1 : g1 0 64 128 = true := by kernel_rfl
theorem g1_0_2 : g1 0 128 192 = true := by kernel_rfl
theorem g1_0_3 : g1 0 192 256 = true := by kernel_rfl
theorem g1_1_0 : g1 1 0 64 = true := by kernel_rfl
theorem g1_1_1 : g1 1 64 128 = true := by kernel_rfl
theorem g1_1_2 : g1 1 128 192 = true := by kernel_rfl
theorem g1_1_3 : g1 1 192 256 = true := by kernel_rfl
theorem g1_2_0 : g1 2 0 64 = true := by kernel_rfl
theorem g1_2_1 : g1 2 64 128 = true := by kernel_rfl
theorem g1_2_2 : g1 2 128 192 = true := by kernel_rfl
theorem g1_2_3 : g1 2 192 256 = true := by kernel_rfl
theorem g1_3_0 : g1 3 0 64 = true := by kernel_rfl
theorem g1_3_1 : g1 3 64 128 = true := by kernel_rfl
theorem g1_3_2 : g1 3 128 192 = true := by kernel_rfl
theorem g1_3_3 : g1 3 192 256 = true := by kernel_rfl
theorem g1_4_0 : g1 4 0 64 = true := by kernel_rfl
theorem g1_4_1 : g1 4 64 128 = true := by kernel_rfl
theorem g1_4_2 : g1 4 128 192 = true := by kernel_rfl
theorem g1_4_3 : g1 4 192 256 = true := by kernel_rfl
theorem g1_5_0 : g1 5 0 64 = true := by kernel_rfl
theorem g1_5_1 : g1 5 64 128 = true := by kernel_rfl
theorem g1_5_2 : g1 5 128 192 = true := by kernel_rfl
theorem g1_5_3 : g1 5 192 256 = true := by kernel_rfl
theorem g1_6_0 : g1 6 0 64 = true := by kernel_rfl
theorem g1_6_1 : g1 6 64 128 = true := by kernel_rfl
theorem g1_6_2 : g1 6 128 192 = true := by kernel_rfl
theorem g1_6_3 : g1 6 192 256 = true := by kernel_rfl
theorem f0_at {y : Nat} (h : y < 31) : f0 y = true := by
  have hh : y = 0 ∨ y = 1 ∨ y = 2 ∨ y = 3 ∨ y = 4 ∨ y = 5 ∨ y = 6 ∨ y = 7 ∨ y = 8 ∨ y = 9 ∨ y = 10 ∨ y = 11 ∨ y = 12 ∨ y = 13 ∨ y = 14 ∨ y = 15 ∨ y = 16 ∨ y = 17 ∨ y = 18 ∨ y = 19 ∨ y = 20 ∨ y = 21 ∨ y = 22 ∨ y = 23 ∨ y = 24 ∨ y = 25 ∨ y = 26 ∨ y = 27 ∨ y = 28 ∨ y = 29 ∨ y = 30 := by omega
  rcases hh with rfl | rfl | rfl | rfl | rfl | rfl | rfl | rfl | rfl | rfl | rfl | rfl | rfl | rfl | rfl | rfl | rfl | rfl | rfl | rfl | rfl | rfl | rfl | rfl | rfl | rfl | rfl | rfl | rfl | rfl | rfl
  · exact f0_0
  · exact f0_1
  · exact f0_2
  · exact f0_3
  · exact f0_4
  · exact f0_5
  · exact f0_6
  · exact f0_7
  · exact f0_8
  · exact f0_9
  · exact f0_10
  · exact f0_11
  · exact f0_12
  · exact f0_13
  · exact f0_14
  · exact f0_15
  · exact f0_16
  · exact f0_17
  · exact f0_18
  · exact f0_19
  · exact f0_20
  · exact f0_21
  · exact f0_22
  · exact f0_23
  · exact f0_24
  · exact f0_25
  · exact f0_26
  · exact f0_27
  · exact f0_28
  · exact f0_29
  · exact f0_30
theorem nu_at {y : Nat} (h : y < 31) : numW y = true := by
  have hh : y = 0 ∨ y = 1 ∨ y = 2 ∨ y = 3 ∨ y = 4 ∨ y = 5 ∨ y = 6 ∨ y = 7 ∨ y = 8 ∨ y = 9 ∨ y = 10 ∨ y = 11 ∨ y = 12 ∨ y = 13 ∨ y = 14 ∨ y = 15 ∨ y = 16 ∨ y = 17 ∨ y = 18 ∨ y = 19 ∨ y = 20 ∨ y = 21 ∨ y = 22 ∨ y = 23 ∨ y = 24 ∨ y = 25 ∨ y = 26 ∨ y = 27 ∨ y = 28 ∨ y = 29 ∨ y = 30 := by omega
  rcases hh with rfl | rfl | rfl | rfl | rfl | rfl | rfl | rfl | rfl | rfl | rfl | rfl | rfl | rfl | rfl | rfl | rfl | rfl | rfl | rfl | rfl | rfl | rfl | rfl | rfl | rfl | rfl | rfl | rfl | rfl | rfl
  · exact nu_0
  · exact nu_1
  · exact nu_2
  · exact nu_3
  · exact nu_4
  · exact nu_5
  · exact nu_6
  · exact nu_7
  · exact nu_8
  · exact nu_9
  · exact nu_10
  · exact nu_11
  · exact nu_12
  · exact nu_13
  · exact nu_14
  · exact nu_15
  · exact nu_16
  · exact nu_17
  · exact nu_18
  · exact nu_19
  · exact nu_20
  · exact nu_21
  · exact nu_22
  · exact nu_23
  · exact nu_24
  · exact nu_25
  · exact nu_26
  · exact nu_27
  · exact nu_28
  · exact nu_29
  · exact nu_30
theorem k0_at {w : Nat} (h : w < 7) : ∀ y, y < 31 → k0 w y = true := by
  have hh : w = 0 ∨ w = 1 ∨ w = 2 ∨ w = 3 ∨ w = 4 ∨ w = 5 ∨ w = 6 := by omega
  rcases hh with rfl | rfl | rfl | rfl | rfl | rfl | rfl
  · exact fun y hy => List.all_eq_true.1 k0_0 y (List.mem_range.2 hy)
  · exact fun y hy => List.all_eq_true.1 k0_1 y (List.mem_range.2 hy)
  · exact fun y hy => List.all_eq_true.1 k0_2 y (List.mem_range.2 hy)
  · exact fun y hy => List.all_eq_true.1 k0_3 y (List.mem_range.2 hy)
  · exact fun y hy => List.all_eq_true.1 k0_4 y (List.mem_range.2 hy)
  · exact fun y hy => List.all_eq_true.1 k0_5 y (List.mem_range.2 hy)
  · exact fun y hy => List.all_eq_true.1 k0_6 y (List.mem_range.2 hy)
theorem k1_at {w : Nat} (h : w < 7) : ∀ y, y < 31 → k1 w y = true := by
  have hh : w = 0 ∨ w = 1 ∨ w = 2 ∨ w = 3 ∨ w = 4 ∨ w = 5 ∨ w = 6 := by omega
  rcases hh with rfl | rfl | rfl | rfl | rfl | rfl | rfl
  · exact fun y hy => List.all_eq_true.1 k1_0 y (List.mem_range.2 hy)
  · exact fun y hy => List.all_eq_true.1 k1_1 y (List.mem_range.2 hy)
  · exact fun y hy => List.all_eq_true.1 k1_2 y (List.mem_range.2 hy)
  · exact fun y hy => List.all_eq_true.1 k1_3 y (List.mem_range.2 hy)
  · exact fun y hy => List.all_eq_true.1 k1_4 y (List.mem_range.2 hy)
  · exact fun y hy => List.all_eq_true.1 k1_5 y (List.mem_range.2 hy)
  · exact fun y hy => List.all_eq_true.1 k1_6 y (List.mem_range.2 hy)
theorem k2_at {w : Nat} (h : w < 7) : ∀ y, y < 31 → k2 w y = true := by
  have hh : w = 0 ∨ w = 1 ∨ w = 2 ∨ w = 3 ∨ w = 4 ∨ w = 5 ∨ w = 6 := by omega
  rcases hh with rfl | rfl | rfl | rfl | rfl | rfl | rfl
  · exact fun y hy => List.all_eq_true.1 k2_0 y (List.mem_range.2 hy)
  · exact fun y hy => List.all_eq_true.1 k2_1 y (List.mem_range.2 hy)
  · exact fun y hy => List.all_eq_true.1 k2_2 y (List.mem_range.2 hy)
  · exact fun y hy => List.all_eq_true.1 k2_3 y (List.mem_range.2 hy)
  · exact fun y hy => List.all_eq_true.1 k2_4 y (List.mem_range.2 hy)
  · exact fun y hy => List.all_eq_true.1 k2_5 y (List.mem_range.2 hy)
  · exact fun y hy => List.all_eq_true.1 k2_6 y (List.mem_range.2 hy)
theorem k3_at {w : Nat} (h : w < 7) : ∀ y, y < 31 → k3 w y = true := by
  have hh : w = 0 ∨ w = 1 ∨ w = 2 ∨ w = 3 ∨ w = 4 ∨ w = 5 ∨ w = 6 := by omega
  rcases hh with rfl | rfl | rfl | rfl | rfl | rfl | rfl
  · exact fun y hy => List.all_eq_true.1 k3_0 y (List.mem_range.2 hy)
  · exact fun y hy => List.all_eq_true.1 k3_1 y (List.mem_range.2 hy)
  · exact fun y hy => List.all_eq_true.1 k3_2 y (List.mem_range.2 hy)
  · exact fun y hy => List.all_eq_true.1 k3_3 y (List.mem_range.2 hy)
  · exact fun y hy => List.all_eq_true.1 k3_4 y (List.mem_range.2 hy)
  · exact fun y hy => List.all_eq_true.1 k3_5 y (List.mem_range.2 hy)
  · exact fun y hy => List.all_eq_true.1 k3_6 y (List.mem_range.2 hy)
theorem g1_part {w a b : Nat} (h : g1 w a b = true) (c : UInt8) (h1 : a ≤ c.toNat) (h2 : c.toNat < b) : okc true c (F_dayspec_Parse [.s (([108, 97, 115, 116] ++ wkS.getD w []) ++ [c])]) = true := by
  have := List.all_eq_true.1 h (c.toNat - a) (List.mem_range.2 (by omega))
  rw [show a + (c.toNat - a) = c.toNat by omega, UInt8.ofNat_toNat] at this
  exact this
theorem g1_all {w : Nat} (h0 : g1 w 0 64 = true) (h1 : g1 w 64 128 = true) (h2 : g1 w 128 192 = true) (h3 : g1 w 192 256 = true) (c : UInt8) : okc true c (F_dayspec_Parse [.s (([108, 97, 115, 116] ++ wkS.getD w []) ++ [c])]) = true := by
  have hc : c.toNat < 256 := UInt8.toNat_lt c
  by_cases q0 : c.toNat < 64
  · exact g1_part h0 c (by omega) q0
  · by_cases q1 : c.toNat < 128
    · exact g1_part h1 c (by omega) q1
    · by_cases q2 : c.toNat < 192
      · exact g1_part h2 c (by omega) q2
      · exact g1_part h3 c (by omega) hc
theorem g1_at {w : Nat} (h : w < 7) : ∀ c : UInt8, okc true c (F_dayspec_Parse [.s (([108, 97, 115, 116] ++ wkS.getD w []) ++ [c])]) = true := by
  have hh : w = 0 ∨ w = 1 ∨ w = 2 ∨ w = 3 ∨ w = 4 ∨ w = 5 ∨ w = 6 := by omega
  rcases hh with rfl | rfl | rfl | rfl | rfl | rfl | rfl
  · exact g1_all g1_0_0 g1_0_1 g1_0_2 g1_0_3
  · exact g1_all g1_1_0 g1_1_1 g1_1_2 g1_1_3
  · exact g1_all g1_2_0 g1_2_1 g1_2_2 g1_2_3
  · exact g1_all g1_3_0 g1_3_1 g1_3_2 g1_3_3
  · exact g1_all g1_4_0 g1_4_1 g1_4_2 g1_4_3
  · exact g1_all g1_5_0 g1_5_1 g1_5_2 g1_5_3
  · exact g1_all g1_6_0 g1_6_1 g1_6_2 g1_6_3

theorem wk_of {w : Nat} (h : w < 7) : F_word_Week [.s (wkS.getD w [])] = some [.i (w : Int), .i 0] ∧ noOp (wkS.getD w []) ∧ (wkS.getD w []).length = 3 := by
  have := List.all_eq_true.1 wk_0 w (List.mem_range.2 h)
  unfold wkOk at this
  simp only [Bool.and_eq_true, decide_eq_true_eq] at this
  obtain ⟨⟨h1, h2⟩, h3⟩ := this
  refine ⟨?_, ?_, h3⟩
  · split at h1
    · rename_i a e he
      simp only [Bool.and_eq_true, decide_eq_true_eq] at h1
      rw [he, h1.1, h1.2]
    · cases h1
  · intro b hb
    have := List.all_eq_true.1 h2 b hb
    simpa using this
theorem num_of {y : Nat} (h : y < 31) (c : UInt8) : (∃ d e : Int, F_dayspec_dayNumber [.s (dig (y + 1) ++ [c])] = some [.i d, .i e] ∧ (e ≠ 0 ∨ (48 ≤ c.toNat ∧ c.toNat ≤ 57))) ∧ (dig (y + 1)).length ≤ 2 := by
  have h0 := nu_at h
  unfold numW at h0
  rw [Bool.and_eq_true, decide_eq_true_eq] at h0
  refine ⟨?_, h0.2⟩
  have h1 := bytes_all (p := numC (y + 1)) h0.1 c
  unfold numC at h1
  split at h1
  · rename_i d e he
    refine ⟨d, e, he, ?_⟩
    simp only [Bool.or_eq_true, Bool.not_eq_true', decide_eq_false_iff_not, decide_eq_true_eq] at h1
    exact h1
  · cases h1
theorem op_c {w y : Nat} (hw : w < 7) (hy : y < 31) (c : UInt8) {o : UInt8} {kind : Int} (ho : (o = 62 ∧ kind = 3) ∨ (o = 60 ∧ kind = 4)) : Okc false c (F_dayspec_Parse [.s ((wkS.getD w [] ++ o :: 61 :: dig (y + 1)) ++ [c])]) := by
  obtain ⟨h1, h2, h3⟩ := wk_of hw
  obtain ⟨⟨d, e, h4, h5⟩, h6⟩ := num_of hy c
  have hs : (wkS.getD w [] ++ o :: 61 :: dig (y + 1)) ++ [c] = wkS.getD w [] ++ o :: 61 :: (dig (y + 1) ++ [c]) := by simp
  rw [hs]
  by_cases he : e = 0
  · subst he
    have hb : F_dayspec_between [.i kind, .s (wkS.getD w []), .s (dig (y + 1) ++ [c])] = some [.i kind, .i (w : Int), .i d, .i 0] := by
      unfold F_dayspec_between
      rw [onI_c, onS_c, onS_c, h1, Option.bind_some, onI_c, onI_c, decide_eq_true rfl, Bool.not_true, cond_false, h4, Option.bind_some, onI_c, onI_c, decide_eq_true rfl, Bool.not_true, cond_false]
    have := parse_op ho h2 (by omega) (by simp; omega) hb
    exact ⟨_, _, _, _, this, .inl ⟨rfl, .inl (h5.resolve_left (fun q => q rfl))⟩⟩
  · have hb : F_dayspec_between [.i kind, .s (wkS.getD w []), .s (dig (y + 1) ++ [c])] = some [.i 0, .i 0, .i 0, .i e] := by
      unfold F_dayspec_between
      rw [onI_c, onS_c, onS_c, h1, Option.bind_some, onI_c, onI_c, decide_eq_true rfl, Bool.not_true, cond_false, h4, Option.bind_some, onI_c, onI_c, decide_eq_false he, Bool.not_false, cond_true]
    have := parse_op ho h2 (by omega) (by simp; omega) hb
    exact ⟨_, _, _, _, this, .inr ⟨he, rfl, rfl, rfl⟩⟩
theorem form_of {k w y : Nat} (hk : k < 4) (hw : w < 7) (hy : y < 31) (c : UInt8) : Form k w y c := by
  have hk' : k = 0 ∨ k = 1 ∨ k = 2 ∨ k = 3 := by omega
  obtain ⟨w1, w2, w3⟩ := wk_of hw
  obtain ⟨_, n2⟩ := num_of hy c
  rcases hk' with rfl | rfl | rfl | rfl
  · obtain ⟨a, b, d, h1, h2⟩ := prt_of (k0_at hw y hy)
    have h3 := f0_at hy
    unfold f0 at h3
    simp only [Bool.and_eq_true, decide_eq_true_eq] at h3
    exact ⟨a, b, d, _, _, h1, h2, by omega, h3.1.1, pre_of h3.1.2, okc_of (bytes_all (p := fun c => okc false c (F_dayspec_Parse [.s (dig (y + 1) ++ [c])])) h3.2 c)⟩
  · obtain ⟨a, b, d, h1, h2⟩ := prt_of (k1_at hw y hy)
    have h3 := List.all_eq_true.1 f1_0 w (List.mem_range.2 hw)
    unfold f1 at h3
    simp only [Bool.and_eq_true, decide_eq_true_eq] at h3
    exact ⟨a, b, d, _, _, h1, h2, by simp only [List.length_append, List.length_cons, List.length_nil]; omega, h3.1, pre_of h3.2, okc_of (g1_at hw c)⟩
  · have h0 := k2_at hw y hy
    unfold k2 at h0
    simp only [Bool.and_eq_true, decide_eq_true_eq] at h0
    obtain ⟨a, b, d, h1, h2⟩ := prt_of h0.1.1
    exact ⟨a, b, d, _, _, h1, h2, by simp only [List.length_append, List.length_cons]; omega, h0.1.2, pre_of h0.2, op_c hw hy c (.inl ⟨rfl, rfl⟩)⟩
  · have h0 := k3_at hw y hy
    unfold k3 at h0
    simp only [Bool.and_eq_true, decide_eq_true_eq] at h0
    obtain ⟨a, b, d, h1, h2⟩ := prt_of h0.1.1
    exact ⟨a, b, d, _, _, h1, h2, by simp only [List.length_append, List.length_cons]; omega, h0.1.2, pre_of h0.2, op_c hw hy c (.inr ⟨rfl, rfl⟩)⟩
end Go.Proofs.YtdpednaafficmaaDoor
