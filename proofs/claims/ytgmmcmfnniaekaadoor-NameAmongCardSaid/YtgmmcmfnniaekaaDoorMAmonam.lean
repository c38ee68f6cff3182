/-
  Letters alone: whose names they are is just how many they are.
-/
import Derived.Test.YtgmmcmfnniaekaaDoorMLetnam
import Derived.Test.YtgmmcmfnniaekaaDoorAxT
namespace Go.Proofs.YtgmmcmfnniaekaaDoor
open Go.Ax
set_option linter.all false
set_option maxHeartbeats 4000000
set_option maxRecDepth 100000
attribute [local congr] cond_cong bind_cong onI_cong onB_cong onS_cong onN_cong onL_cong
theorem let_facts (b : UInt8) (h : letB b = true) : Za.oka b = true ∧ Za.okb b = true ∧ b ≠ 47 := by
  have := Za.byte_all (p := fun b => !letB b || (Za.oka b && Za.okb b && !decide (b = 47))) (by decide +kernel) b
  simp [h] at this
  exact ⟨this.1.1, this.1.2, this.2⟩
theorem all_ok {l : List UInt8} (h : l.all letB = true) : l.all Za.okb = true := by
  rw [List.all_eq_true] at h ⊢
  exact fun x hx => (let_facts x (h x hx)).2.1
theorem zone_let {t : List UInt8} {k : Nat} (h : t.all letB = true) (hk : t.length = k) : Zo.zoneV t = (decide (1 ≤ k) && decide (k ≤ 14)) := by
  have hp : Sp.parts 47 t = [t] := parts_nosep (fun x hx => (let_facts x (List.all_eq_true.1 h x hx)).2.2)
  unfold Zo.zoneV
  rw [hp, List.all_cons, List.all_nil, Bool.and_true]
  cases t with
  | nil => simp at hk; subst hk; rfl
  | cons x l =>
    rw [List.all_cons, Bool.and_eq_true] at h
    have h1 := (let_facts x h.1).1
    have h2 := all_ok h.2
    simp only [Za.partOk, h1, h2, Bool.true_and]
    simp at hk
    by_cases q : k ≤ 14
    · rw [decide_eq_true q, decide_eq_true (show l.length ≤ 13 by omega), decide_eq_true (show 1 ≤ k by omega), decide_eq_true (show (x :: l).length ≤ 60 by simp only [List.length_cons]; omega)]
    · rw [decide_eq_false q, decide_eq_false (show ¬ l.length ≤ 13 by omega), Bool.and_false]; simp
theorem set_let {t : List UInt8} {k : Nat} (h : t.all letB = true) (hk : t.length = k) : setV t = (decide (1 ≤ k) && decide (k ≤ 30)) := by
  cases t with
  | nil => simp at hk; subst hk; rfl
  | cons x l =>
    rw [List.all_cons, Bool.and_eq_true] at h
    have h2 : l.all (fun b => letB b || joinB b) = true := by
      rw [List.all_eq_true]; intro y hy; rw [List.all_eq_true.1 h.2 y hy]; rfl
    simp only [setV, h.1, h2, Bool.true_and]
    simp at hk
    by_cases q : k ≤ 30
    · rw [decide_eq_true q, decide_eq_true (show l.length ≤ 29 by omega), decide_eq_true (show 1 ≤ k by omega)]; rfl
    · rw [decide_eq_false q, decide_eq_false (show ¬ l.length ≤ 29 by omega), Bool.and_false]
theorem letters_let {t : List UInt8} {k : Nat} (a b : Nat) (h : t.all letB = true) (hk : t.length = k) : lettersV ((a : Nat) : Int) ((b : Nat) : Int) t = (decide (a ≤ k) && decide (k ≤ b)) := by
  unfold lettersV
  rw [h, hk, Bool.true_and]
  congr 1
  · by_cases q : a ≤ k
    · rw [decide_eq_true q, decide_eq_true (by omega)]
    · rw [decide_eq_false q, decide_eq_false (by omega)]
  · by_cases q : k ≤ b
    · rw [decide_eq_true q, decide_eq_true (by omega)]
    · rw [decide_eq_false q, decide_eq_false (by omega)]
theorem among_law {bs : List UInt8} {ll : List AV} (hr : Row ll bs) {n : Nat} (hn : n < 256) : F_law07_NameAmong [.n bs.length, .l ll, .i ((n : Nat) : Int)] = some [.b true] := by
  have hk : n % 40 < 40 := Nat.mod_lt _ (by omega)
  have e1 : i64 (Int.tmod ((n : Nat) : Int) 40) = ((n % 40 : Nat) : Int) := by rw [tmod_nn (by omega), i64_in _ (by omega)]; omega
  obtain ⟨t, hL, hal, htl⟩ : ∃ t, F_law07_Letters [.n bs.length, .l ll, .i ((n % 40 : Nat) : Int), .i ((n % 40 : Nat) : Int)] = some [.s t] ∧ t.all letB = true ∧ t.length = n % 40 :=
    ⟨_, Letters_made hr (by omega) (by omega), made_all _ _, by rw [made_len]; omega⟩
  have hz := zone_let hal htl
  have hs := set_let hal htl
  have h4 := letters_let 1 4 hal htl
  have h6 := letters_let 3 6 hal htl
  have hz2 := nameZone_at (s := t) (by omega)
  have hs2 := set_at (s := t)
  have h42 := Letter_at (s := t)
  have h62 := Abbr_at (s := t)
  rw [show ((1 : Nat) : Int) = 1 from rfl, show ((4 : Nat) : Int) = 4 from rfl] at h4
  rw [show ((3 : Nat) : Int) = 3 from rfl, show ((6 : Nat) : Int) = 6 from rfl] at h6
  rw [hz] at hz2
  rw [hs] at hs2
  rw [h4] at h42
  rw [h6] at h62
  clear hz hs h4 h6 hal hr
  generalize n % 40 = k at *
  have d1 : decide ((1 : Int) ≤ ((k : Nat) : Int)) = decide (1 ≤ k) := by by_cases q : 1 ≤ k <;> simp [q] <;> omega
  have d3 : decide ((3 : Int) ≤ ((k : Nat) : Int)) = decide (3 ≤ k) := by by_cases q : 3 ≤ k <;> simp [q] <;> omega
  have d4 : decide (((k : Nat) : Int) ≤ 4) = decide (k ≤ 4) := by by_cases q : k ≤ 4 <;> simp [q] <;> omega
  have d6 : decide (((k : Nat) : Int) ≤ 6) = decide (k ≤ 6) := by by_cases q : k ≤ 6 <;> simp [q] <;> omega
  have d30 : decide (((k : Nat) : Int) ≤ 30) = decide (k ≤ 30) := by by_cases q : k ≤ 30 <;> simp [q] <;> omega
  have d14 : decide (((k : Nat) : Int) ≤ 14) = decide (k ≤ 14) := by by_cases q : k ≤ 14 <;> simp [q] <;> omega
  have d14' : decide ((14 : Int) < ((k : Nat) : Int)) = !decide (k ≤ 14) := by by_cases q : k ≤ 14 <;> simp [q] <;> omega
  have hreg : (k = 0) ∨ (1 ≤ k ∧ k ≤ 2) ∨ (3 ≤ k ∧ k ≤ 4) ∨ (5 ≤ k ∧ k ≤ 6) ∨ (7 ≤ k ∧ k ≤ 14) ∨ (15 ≤ k ∧ k ≤ 30) ∨ 31 ≤ k := by omega
  unfold F_law07_NameAmong
  have hw : F_law07_works [] = some [.b true] := rfl
  rcases hreg with hq | hq | hq | hq | hq | hq | hq
  all_goals
    simp (disch := omega) only [e1, hL, htl, hz2, hs2, h42, h62, d1, d3, d4, d6, d30, d14, d14', hw, onI_c, onS_c, onB_c, onN_c, onL_c, Option.bind_some, Option.map_some, cond_true, cond_false, ↓onI_c, ↓onS_c, ↓onB_c, ↓onN_c, ↓onL_c, ↓Option.bind_some, ↓cond_true, ↓cond_false, decide_eq_true, decide_eq_false, Bool.not_true, Bool.not_false, Int.toNat_natCast, List.length_append, List.length_cons, List.length_nil, List.drop_zero, Nat.zero_add, Nat.add_zero, decT, decF, bneI_t, bneI_f, decide_true, decide_false, Bool.and_true, Bool.true_and, Bool.and_false, Bool.false_and, beq_self_eq_true, ↓beq_self_eq_true, Bool.not_false, bne_self_eq_false]
    try rfl
theorem lawP_NameAmong {dats : List Dat} (h : DatOk tau [.slice 5, .int .u8] dats) : F_law07_NameAmong dats = some [.b true] := by
  obtain ⟨n, c, r, rfl, hc, a, r2, rfl, ha, rfl⟩ := h
  obtain ⟨bs, hb, rfl⟩ := row_of (by kernel_rfl) hc
  have ha := wf_u8 ha
  obtain ⟨m, rfl⟩ : ∃ m : Nat, a = m := ⟨a.toNat, by omega⟩
  exact among_law hb (by omega)
end Go.Proofs.YtgmmcmfnniaekaaDoor
