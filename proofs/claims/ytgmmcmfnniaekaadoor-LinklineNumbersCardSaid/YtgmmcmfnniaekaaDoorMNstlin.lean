/-
  Which strings are names: letters, sets, zones, by the code and by the document.
-/
import Derived.Test.YtgmmcmfnniaekaaDoorHZone
import Derived.Test.YtgmmcmfnniaekaaDoorFlin
import Derived.Test.YtgmmcmfnniaekaaDoorAx32
namespace Go.Proofs.YtgmmcmfnniaekaaDoor
open Go.Ax
set_option linter.all false
set_option maxRecDepth 100000
def letZ (x : Int) : Bool := (decide (65 ≤ x) && decide (x ≤ 90)) || (decide (97 ≤ x) && decide (x ≤ 122))
def digZ (x : Int) : Bool := decide (48 ≤ x) && decide (x ≤ 57)
def letB (b : UInt8) : Bool := letZ ((b.toNat : Nat) : Int)
def digB (b : UInt8) : Bool := digZ ((b.toNat : Nat) : Int)
def joinB (b : UInt8) : Bool := digB b || decide ((b.toNat : Int) = 95) || decide ((b.toNat : Int) = 45)
theorem letter_at (x : Int) : F_ref07_letter [.i x] = some [.b (letZ x)] := by
  unfold F_ref07_letter letZ
  simp only [onI_c]
  cases decide (65 ≤ x) <;> cases decide (x ≤ 90) <;> cases decide (97 ≤ x) <;> cases decide (x ≤ 122) <;> rfl
theorem digit_at (x : Int) : F_ref07_digit [.i x] = some [.b (digZ x)] := by
  unfold F_ref07_digit digZ
  simp only [onI_c]
  cases decide (48 ≤ x) <;> cases decide (x ≤ 57) <;> rfl
theorem cl_letter (b : UInt8) (h : b.toNat < 128) : decide (Za.cl b = 1) = letB b := by
  have := Za.byte_all (p := fun b => !decide (b.toNat < 128) || (decide (Za.cl b = 1) == letB b)) (by decide +kernel) b
  simpa [h] using this
theorem cl_join (b : UInt8) (h : b.toNat < 128) : (!decide (arith .and .u8 (Za.cl b) 6 = 0)) = joinB b := by
  have := Za.byte_all (p := fun b => !decide (b.toNat < 128) || ((!decide (arith .and .u8 (Za.cl b) 6 = 0)) == joinB b)) (by decide +kernel) b
  simpa [h] using this
theorem big_let (b : UInt8) (h : ¬ b.toNat < 128) : letB b = false ∧ joinB b = false := by
  have := Za.byte_all (p := fun b => decide (b.toNat < 128) || (!letB b && !joinB b)) (by decide +kernel) b
  simpa [h] using this
/-- A loop over the bytes of a string that ends at the first that is wrong. -/
theorem scan_all {step : List Dat → Option (List Dat ⊕ List Dat)} {mk : Nat → List Dat} {s : List UInt8} {q : UInt8 → Bool} {k0 : Nat} {e : List Dat}
    (h1 : ∀ k, k0 ≤ k → k < s.length → step (mk k) = if q (s.getD k 0) = true then some (.inl (mk (k + 1))) else some (.inr [.b false])) (h3 : step (mk s.length) = some (.inr e)) :
    ∀ m k, k0 ≤ k → k + m = s.length → iter step (mk k) = some (bif (s.drop k).all q then e else [.b false])
  | 0, k, h0, h => by
    obtain rfl : k = s.length := by omega
    rw [iter_end h3, List.drop_of_length_le (Nat.le_refl _)]; rfl
  | m + 1, k, h0, h => by
    have hk : k < s.length := by omega
    have hd : s.drop k = s.getD k 0 :: s.drop (k + 1) := by
      rw [List.drop_eq_getElem_cons hk]; simp [List.getD, hk]
    rw [hd, List.all_cons]
    have hs := h1 k h0 hk
    cases hb : q (s.getD k 0) with
    | true => rw [hb, if_pos rfl] at hs; rw [iter_next hs, scan_all h1 h3 m (k + 1) (by omega) (by omega), Bool.true_and]
    | false => rw [hb, if_neg (by simp)] at hs; rw [iter_end hs]; rfl
theorem set_step {s : List UInt8} {k : Nat} (hk : k < s.length) (hl : s.length < 4611686018427387904) :
    F_name_Set_L0 [.s s, .i ((s.length : Nat) : Int), .i ((k : Nat) : Int)] = if (letB (s.getD k 0) || (decide (0 < k) && joinB (s.getD k 0))) = true then some (.inl [.s s, .i ((s.length : Nat) : Int), .i ((k + 1 : Nat) : Int)]) else some (.inr [.b false]) := by
  have e1 : i64 ((k : Int) + 1) = ((k + 1 : Nat) : Int) := by rw [i64_in _ (by omega)]; omega
  have e2 : ((k : Nat) : Int).toNat = k := Int.toNat_natCast k
  have h1 : ((k : Nat) : Int) < ((s.length : Nat) : Int) := by omega
  have h2 : 0 ≤ ((k : Nat) : Int) ∧ ((k : Nat) : Int) < ((s.length : Nat) : Int) := by omega
  have h3 : decide ((0 : Int) < ((k : Nat) : Int)) = decide (0 < k) := by by_cases h : 0 < k <;> simp [h]
  unfold F_name_Set_L0
  change (bif (decide (((k : Nat) : Int) < ((s.length : Nat) : Int))) then (bif (decide ((0 ≤ ((k : Nat) : Int)) ∧ (((k : Nat) : Int) < ((s.length : Nat) : Int)))) then _ else _) else _) = _
  generalize hb : s.getD k 0 = b
  have hn : ((b.toNat : Nat) : Int).toNat = b.toNat := Int.toNat_natCast _
  by_cases h4 : b.toNat < 128
  · have hT := Za.tbl_at b h4
    have hc1 := cl_letter b h4
    have hc2 := cl_join b h4
    unfold Za.tbl at hT
    have h5 : ¬ (128 : Int) ≤ ((b.toNat : Nat) : Int) := by omega
    have h6 : 0 ≤ ((b.toNat : Nat) : Int) ∧ ((b.toNat : Nat) : Int) < 128 := by omega
    simp only [h1, h2, e2, hb, hn, h5, h6, hT, e1, h3, hc1, hc2, onI_c, onS_c, onB_c, onN_c, onL_c, Option.bind_some, Option.map_some, cond_true, cond_false, ↓onI_c, ↓onS_c, ↓onB_c, ↓onN_c, ↓onL_c, ↓Option.bind_some, ↓cond_true, ↓cond_false, decide_eq_true, decide_eq_false, Bool.not_true, Bool.not_false, Int.toNat_natCast, List.length_append, List.length_cons, List.length_nil, List.drop_zero, Nat.zero_add, Nat.add_zero, decT, decF, bneI_t, bneI_f, decide_true, decide_false, and_self, true_and, and_true]
    cases letB b <;> cases decide (0 < k) <;> cases joinB b <;> rfl
  · have h5 : (128 : Int) ≤ ((b.toNat : Nat) : Int) := by omega
    obtain ⟨q1, q2⟩ := big_let b h4
    simp only [h1, h2, e2, hb, hn, h5, q1, q2, onI_c, onS_c, onB_c, onN_c, onL_c, Option.bind_some, Option.map_some, cond_true, cond_false, ↓onI_c, ↓onS_c, ↓onB_c, ↓onN_c, ↓onL_c, ↓Option.bind_some, ↓cond_true, ↓cond_false, decide_eq_true, decide_eq_false, Bool.not_true, Bool.not_false, Int.toNat_natCast, List.length_append, List.length_cons, List.length_nil, List.drop_zero, Nat.zero_add, Nat.add_zero, decT, decF, bneI_t, bneI_f, decide_true, decide_false, and_self, true_and, and_true]
    cases decide (0 < k) <;> rfl
theorem set_end {s : List UInt8} : F_name_Set_L0 [.s s, .i ((s.length : Nat) : Int), .i ((s.length : Nat) : Int)] = some (.inr [.b true]) := by
  unfold F_name_Set_L0
  have h1 : ¬ ((s.length : Nat) : Int) < ((s.length : Nat) : Int) := by omega
  simp only [h1, onI_c, onS_c, onB_c, onN_c, onL_c, Option.bind_some, Option.map_some, cond_true, cond_false, ↓onI_c, ↓onS_c, ↓onB_c, ↓onN_c, ↓onL_c, ↓Option.bind_some, ↓cond_true, ↓cond_false, decide_eq_true, decide_eq_false, Bool.not_true, Bool.not_false, Int.toNat_natCast, List.length_append, List.length_cons, List.length_nil, List.drop_zero, Nat.zero_add, Nat.add_zero, decT, decF, bneI_t, bneI_f, decide_false]
/-- Names of sets. -/
def setV (s : List UInt8) : Bool := match s with
  | [] => false
  | x :: l => letB x && l.all (fun b => letB b || joinB b) && decide (l.length ≤ 29)
theorem guard2 {α : Type} {p q : Prop} [Decidable p] [Decidable q] (hp : ¬ p) (hq : ¬ q) (f : Bool → Option α) : Option.bind (bif (decide p) then (some true) else (bif (decide q) then (some true) else (some false))) f = f false := by
  rw [decide_eq_false hp, decide_eq_false hq]; rfl
theorem guard1 {α : Type} {p q : Prop} [Decidable p] [Decidable q] (h : p ∨ q) (f : Bool → Option α) : Option.bind (bif (decide p) then (some true) else (bif (decide q) then (some true) else (some false))) f = f true := by
  by_cases hp : p
  · rw [decide_eq_true hp]; rfl
  · rw [decide_eq_false hp, decide_eq_true (h.resolve_left hp)]; rfl
theorem set_at {s : List UInt8} : F_name_Set [.s s] = some [.b (setV s)] := by
  unfold F_name_Set
  rw [onS_c]
  by_cases hg : (((s.length : Nat) : Int) < 1) ∨ (30 < ((s.length : Nat) : Int))
  · rw [guard1 hg, cond_true]
    cases s with
    | nil => rfl
    | cons x l =>
      have : ¬ l.length ≤ 29 := by simp at hg; omega
      simp [setV, this]
  · rw [guard2 (fun h => hg (.inl h)) (fun h => hg (.inr h)), cond_false]
    cases s with
    | nil => simp at hg
    | cons x l =>
      have h3 : l.length ≤ 29 := by simp at hg; omega
      have hl : (x :: l).length < 4611686018427387904 := by simp; omega
      have hs := set_step (s := x :: l) (k := 0) (by simp) hl
      have hz : (x :: l).getD 0 0 = x := rfl
      rw [hz] at hs
      have hrun := scan_all (step := F_name_Set_L0) (mk := fun k => [.s (x :: l), .i (((x :: l).length : Nat) : Int), .i ((k : Nat) : Int)]) (s := x :: l) (q := fun b => letB b || joinB b) (k0 := 1) (e := [.b true])
        (fun k h0 hk => by rw [set_step hk hl]; simp [show 0 < k by omega]) set_end l.length 1 (Nat.le_refl _) (by simp; omega)
      cases hb : letB x with
      | true =>
        rw [hb] at hs
        rw [show (0 : Int) = ((0 : Nat) : Int) from rfl, iter_next hs]
        refine hrun.trans ?_
        simp only [setV, hb, h3, List.drop_succ_cons, List.drop_zero, decide_true, Bool.true_and, Bool.and_true]
        cases l.all (fun b => letB b || joinB b) <;> rfl
      | false => rw [hb] at hs; rw [show (0 : Int) = ((0 : Nat) : Int) from rfl, iter_end hs]; simp [setV, hb]
/-! The document's. -/
theorem rset_step {s : List UInt8} {k : Nat} (hk : k < s.length) (hl : s.length < 4611686018427387904) :
    F_ref07_Set_L0 [.s s, .i ((k : Nat) : Int)] = if (letB (s.getD k 0) || joinB (s.getD k 0)) = true then some (.inl [.s s, .i ((k + 1 : Nat) : Int)]) else some (.inr [.b false]) := by
  have e1 : i64 ((k : Int) + 1) = ((k + 1 : Nat) : Int) := by rw [i64_in _ (by omega)]; omega
  have e2 : ((k : Nat) : Int).toNat = k := Int.toNat_natCast k
  have h1 : ((k : Nat) : Int) < ((s.length : Nat) : Int) := by omega
  have h2 : 0 ≤ ((k : Nat) : Int) ∧ ((k : Nat) : Int) < ((s.length : Nat) : Int) := by omega
  unfold F_ref07_Set_L0
  generalize hb : s.getD k 0 = b
  simp only [h1, h2, e2, e1, hb, letter_at, digit_at, onI_c, onS_c, onB_c, onN_c, onL_c, Option.bind_some, Option.map_some, cond_true, cond_false, ↓onI_c, ↓onS_c, ↓onB_c, ↓onN_c, ↓onL_c, ↓Option.bind_some, ↓cond_true, ↓cond_false, decide_eq_true, decide_eq_false, Bool.not_true, Bool.not_false, Int.toNat_natCast, List.length_append, List.length_cons, List.length_nil, List.drop_zero, Nat.zero_add, Nat.add_zero, decT, decF, bneI_t, bneI_f, decide_true, decide_false, and_self, true_and, and_true]
  show (bif (!letB b) then _ else _) = _
  unfold joinB
  show (bif (!letB b) then (bif (!digB b) then _ else _) else _) = _
  cases letB b <;> cases digB b <;> cases decide (((b.toNat : Nat) : Int) = 95) <;> cases decide (((b.toNat : Nat) : Int) = 45) <;> rfl
theorem rset_end {s : List UInt8} : F_ref07_Set_L0 [.s s, .i ((s.length : Nat) : Int)] = some (.inr [.b true]) := by
  unfold F_ref07_Set_L0
  have h1 : ¬ ((s.length : Nat) : Int) < ((s.length : Nat) : Int) := by omega
  simp only [h1, onI_c, onS_c, onB_c, onN_c, onL_c, Option.bind_some, Option.map_some, cond_true, cond_false, ↓onI_c, ↓onS_c, ↓onB_c, ↓onN_c, ↓onL_c, ↓Option.bind_some, ↓cond_true, ↓cond_false, decide_eq_true, decide_eq_false, Bool.not_true, Bool.not_false, Int.toNat_natCast, List.length_append, List.length_cons, List.length_nil, List.drop_zero, Nat.zero_add, Nat.add_zero, decT, decF, bneI_t, bneI_f, decide_false]
theorem rset_at {s : List UInt8} : F_ref07_Set [.s s] = some [.b (setV s)] := by
  unfold F_ref07_Set
  rw [onS_c]
  cases s with
  | nil => rfl
  | cons x l =>
    have h1 : ¬ (((x :: l).length : Nat) : Int) < 1 := by simp; omega
    rw [decide_eq_false h1, cond_false]
    by_cases h2 : 30 < (((x :: l).length : Nat) : Int)
    · have : ¬ l.length ≤ 29 := by simp at h2; omega
      rw [decide_eq_true h2, cond_true]; simp [setV, this]
    · have h3 : l.length ≤ 29 := by simp at h2; omega
      have hl : (x :: l).length < 4611686018427387904 := by simp; omega
      rw [decide_eq_false h2, cond_false, decide_eq_true (show (0 : Int) ≤ 0 ∧ 0 < (((x :: l).length : Nat) : Int) from ⟨Int.le_refl _, by simp only [List.length_cons]; omega⟩), cond_true, letter_at, Option.bind_some, onB_c]
      show (bif (!letB x) then _ else _) = _
      cases hb : letB x with
      | false => simp [setV, hb]
      | true =>
        refine (scan_all (step := F_ref07_Set_L0) (mk := fun k => [.s (x :: l), .i ((k : Nat) : Int)]) (s := x :: l) (q := fun b => letB b || joinB b) (k0 := 0) (e := [.b true])
          (fun k _ hk => rset_step hk hl) rset_end (x :: l).length 0 (Nat.le_refl _) (by omega)).trans ?_
        simp only [setV, hb, h3, List.drop_zero, List.all_cons, Bool.true_or, decide_true, Bool.true_and, Bool.and_true]
        cases l.all (fun b => letB b || joinB b) <;> rfl
/-! Parts of the names of zones, as the document has them. -/
theorem okb_eq (b : UInt8) : Za.okb b = (letB b || digB b || decide ((b.toNat : Int) = 46) || decide ((b.toNat : Int) = 95) || decide ((b.toNat : Int) = 43) || decide ((b.toNat : Int) = 45)) := by
  have := Za.byte_all (p := fun b => Za.okb b == (letB b || digB b || decide ((b.toNat : Int) = 46) || decide ((b.toNat : Int) = 95) || decide ((b.toNat : Int) = 43) || decide ((b.toNat : Int) = 45))) (by decide +kernel) b
  simpa using this
theorem rpart_step {s : List UInt8} {k : Nat} (hk : k < s.length) (hl : s.length < 4611686018427387904) :
    F_ref07_part_L0 [.s s, .i ((k : Nat) : Int)] = if Za.okb (s.getD k 0) = true then some (.inl [.s s, .i ((k + 1 : Nat) : Int)]) else some (.inr [.b false]) := by
  have e1 : i64 ((k : Int) + 1) = ((k + 1 : Nat) : Int) := by rw [i64_in _ (by omega)]; omega
  have e2 : ((k : Nat) : Int).toNat = k := Int.toNat_natCast k
  have h1 : ((k : Nat) : Int) < ((s.length : Nat) : Int) := by omega
  have h2 : 0 ≤ ((k : Nat) : Int) ∧ ((k : Nat) : Int) < ((s.length : Nat) : Int) := by omega
  unfold F_ref07_part_L0
  generalize hb : s.getD k 0 = b
  simp only [h1, h2, e2, e1, hb, letter_at, digit_at, onI_c, onS_c, onB_c, onN_c, onL_c, Option.bind_some, Option.map_some, cond_true, cond_false, ↓onI_c, ↓onS_c, ↓onB_c, ↓onN_c, ↓onL_c, ↓Option.bind_some, ↓cond_true, ↓cond_false, decide_eq_true, decide_eq_false, Bool.not_true, Bool.not_false, Int.toNat_natCast, List.length_append, List.length_cons, List.length_nil, List.drop_zero, Nat.zero_add, Nat.add_zero, decT, decF, bneI_t, bneI_f, decide_true, decide_false, and_self, true_and, and_true]
  rw [okb_eq]
  show (bif (!letB b) then (bif (!digB b) then _ else _) else _) = _
  cases letB b <;> cases digB b <;> cases decide (((b.toNat : Nat) : Int) = 46) <;> cases decide (((b.toNat : Nat) : Int) = 95) <;> cases decide (((b.toNat : Nat) : Int) = 43) <;> cases decide (((b.toNat : Nat) : Int) = 45) <;> rfl
theorem rpart_end {s : List UInt8} : F_ref07_part_L0 [.s s, .i ((s.length : Nat) : Int)] = some (.inr [.b true]) := by
  unfold F_ref07_part_L0
  have h1 : ¬ ((s.length : Nat) : Int) < ((s.length : Nat) : Int) := by omega
  simp only [h1, onI_c, onS_c, onB_c, onN_c, onL_c, Option.bind_some, Option.map_some, cond_true, cond_false, ↓onI_c, ↓onS_c, ↓onB_c, ↓onN_c, ↓onL_c, ↓Option.bind_some, ↓cond_true, ↓cond_false, decide_eq_true, decide_eq_false, Bool.not_true, Bool.not_false, Int.toNat_natCast, List.length_append, List.length_cons, List.length_nil, List.drop_zero, Nat.zero_add, Nat.add_zero, decT, decF, bneI_t, bneI_f, decide_false]
theorem rpart_at {s : List UInt8} : F_ref07_part [.s s] = some [.b (Za.partOk s)] := by
  unfold F_ref07_part
  rw [onS_c]
  cases s with
  | nil => rfl
  | cons x l =>
    have h1 : ¬ (((x :: l).length : Nat) : Int) < 1 := by simp; omega
    rw [decide_eq_false h1, cond_false]
    by_cases h2 : 14 < (((x :: l).length : Nat) : Int)
    · have : ¬ l.length ≤ 13 := by simp at h2; omega
      rw [decide_eq_true h2, cond_true, Option.bind_some, cond_true]; simp [Za.partOk, this]
    · have h3 : l.length ≤ 13 := by simp at h2; omega
      have hl : (x :: l).length < 4611686018427387904 := by simp; omega
      have hz : (x :: l).getD 0 0 = x := rfl
      rw [decide_eq_false h2, cond_false, decide_eq_true (show (0 : Int) ≤ 0 ∧ 0 < (((x :: l).length : Nat) : Int) from ⟨Int.le_refl _, by simp only [List.length_cons]; omega⟩), cond_true, cond_true, hz]
      have hrun := scan_all (step := F_ref07_part_L0) (mk := fun k => [.s (x :: l), .i ((k : Nat) : Int)]) (s := x :: l) (q := Za.okb) (k0 := 0) (e := [.b true])
          (fun k _ hk => rpart_step hk hl) rpart_end (x :: l).length 0 (Nat.le_refl _) (by omega)
      simp only [Za.partOk, Za.oka, h3, decide_true, Bool.and_true]
      cases h46 : decide (((x.toNat : Nat) : Int) = 46) with
      | true => simp
      | false =>
        cases h45 : decide (((x.toNat : Nat) : Int) = 45) with
        | true => simp
        | false =>
          refine hrun.trans ?_
          rw [List.drop_zero, List.all_cons]
          cases Za.okb x <;> cases l.all Za.okb <;> rfl
theorem parts_sep {c : UInt8} : ∀ {a b : List UInt8}, (∀ x, x ∈ a → x ≠ c) → Sp.parts c (a ++ c :: b) = a :: Sp.parts c b
  | [], b, _ => by
    show Sp.parts c (c :: b) = _
    conv => lhs; unfold Sp.parts
    rw [if_pos rfl]
  | x :: a, b, h => by
    have ih := parts_sep (a := a) (b := b) (fun y hy => h y (List.mem_cons_of_mem _ hy))
    show Sp.parts c (x :: (a ++ c :: b)) = _
    conv => lhs; unfold Sp.parts
    rw [if_neg (h x (List.mem_cons_self ..)), ih]
theorem parts_nosep {c : UInt8} : ∀ {a : List UInt8}, (∀ x, x ∈ a → x ≠ c) → Sp.parts c a = [a]
  | [], _ => rfl
  | x :: a, h => by
    have ih := parts_nosep (a := a) (fun y hy => h y (List.mem_cons_of_mem _ hy))
    conv => lhs; unfold Sp.parts
    rw [if_neg (h x (List.mem_cons_self ..)), ih]
theorem piece_no {s : List UInt8} {f i : Nat} {c : UInt8} (h : ∀ j, f ≤ j → j < i → s.getD j 0 ≠ c) : ∀ x, x ∈ (s.drop f).take (i - f) → x ≠ c := by
  intro x hx
  obtain ⟨j, hj, rfl⟩ := List.mem_iff_getElem.1 hx
  have hj2 := hj
  simp only [List.length_take, List.length_drop] at hj2
  have := h (f + j) (by omega) (by omega)
  simpa [List.getD, show f + j < s.length by omega] using this
theorem rzone_run {s : List UInt8} (hl : s.length < 4611686018427387904) : ∀ (m i f : Nat), i + m = s.length → f ≤ i → (∀ j, f ≤ j → j < i → s.getD j 0 ≠ 47) →
    iter F_ref07_Zone_L0 [.s s, .i ((f : Nat) : Int), .i ((i : Nat) : Int)] = some [.b ((Sp.parts 47 (s.drop f)).all Za.partOk && decide (s.length ≤ 60))]
  | 0, i, f, h, hf, hn => by
    obtain rfl : i = s.length := by omega
    refine iter_end ?_
    unfold F_ref07_Zone_L0
    have h1 : ¬ ((s.length : Nat) : Int) < ((s.length : Nat) : Int) := by omega
    have h2 : 0 ≤ ((f : Nat) : Int) ∧ ((f : Nat) : Int) ≤ ((s.length : Nat) : Int) := by omega
    have ht : List.take (s.length - f) (s.drop f) = s.drop f := List.take_of_length_le (by simp)
    have hp : Sp.parts 47 (s.drop f) = [s.drop f] := parts_nosep (by have := piece_no (i := s.length) hn; rwa [ht] at this)
    have h6 : decide (((s.length : Nat) : Int) ≤ 60) = decide (s.length ≤ 60) := by
      by_cases h : s.length ≤ 60
      · rw [decide_eq_true h, decide_eq_true (by omega)]
      · rw [decide_eq_false h, decide_eq_false (by omega)]
    rw [onS_c, onI_c, onI_c]
    simp only [h1, h2, onI_c, onS_c, onB_c, onN_c, onL_c, Option.bind_some, Option.map_some, cond_true, cond_false, ↓onI_c, ↓onS_c, ↓onB_c, ↓onN_c, ↓onL_c, ↓Option.bind_some, ↓cond_true, ↓cond_false, decide_eq_true, decide_eq_false, Bool.not_true, Bool.not_false, Int.toNat_natCast, List.length_append, List.length_cons, List.length_nil, List.drop_zero, Nat.zero_add, Nat.add_zero, decT, decF, bneI_t, bneI_f, decide_true, decide_false, and_self, ht, rpart_at, hp, h6]
    simp only [List.all_cons, List.all_nil, Bool.and_true]
    cases Za.partOk (s.drop f) <;> cases decide (s.length ≤ 60) <;> rfl
  | m + 1, i, f, h, hf, hn => by
    have hi : i < s.length := by omega
    have e1 : i64 ((i : Int) + 1) = ((i + 1 : Nat) : Int) := by rw [i64_in _ (by omega)]; omega
    have e2 : ((i : Nat) : Int).toNat = i := Int.toNat_natCast i
    have e3 : ((f : Nat) : Int).toNat = f := Int.toNat_natCast f
    have h1 : ((i : Nat) : Int) < ((s.length : Nat) : Int) := by omega
    have h2 : 0 ≤ ((i : Nat) : Int) ∧ ((i : Nat) : Int) < ((s.length : Nat) : Int) := by omega
    have h3 : 0 ≤ ((i : Nat) : Int) ∧ ((i : Nat) : Int) ≤ ((s.length : Nat) : Int) := by omega
    have h4 : 0 ≤ ((f : Nat) : Int) ∧ ((f : Nat) : Int) ≤ ((i : Nat) : Int) := by omega
    by_cases hc : s.getD i 0 = 47
    · have h5 : (((s.getD i 0).toNat : Nat) : Int) = 47 := by rw [hc]; rfl
      have hd : s.drop f = (s.drop f).take (i - f) ++ 47 :: s.drop (i + 1) := by
        conv => lhs; rw [← List.take_append_drop (i - f) (s.drop f)]
        congr 1
        rw [List.drop_drop, show f + (i - f) = i by omega, List.drop_eq_getElem_cons hi]
        congr 1
        simpa [List.getD, hi] using hc
      have hp : Sp.parts 47 (s.drop f) = (s.drop f).take (i - f) :: Sp.parts 47 (s.drop (i + 1)) := by
        conv => lhs; rw [hd]
        exact parts_sep (piece_no hn)
      have hstep : F_ref07_Zone_L0 [.s s, .i ((f : Nat) : Int), .i ((i : Nat) : Int)] = if Za.partOk ((s.drop f).take (i - f)) = true then some (.inl [.s s, .i ((i + 1 : Nat) : Int), .i ((i + 1 : Nat) : Int)]) else some (.inr [.b false]) := by
        unfold F_ref07_Zone_L0
        rw [onS_c, onI_c, onI_c]
        simp only [h1, h2, h3, h4, h5, e1, e2, e3, onI_c, onS_c, onB_c, onN_c, onL_c, Option.bind_some, Option.map_some, cond_true, cond_false, ↓onI_c, ↓onS_c, ↓onB_c, ↓onN_c, ↓onL_c, ↓Option.bind_some, ↓cond_true, ↓cond_false, decide_eq_true, decide_eq_false, Bool.not_true, Bool.not_false, Int.toNat_natCast, List.length_append, List.length_cons, List.length_nil, List.drop_zero, Nat.zero_add, Nat.add_zero, decT, decF, bneI_t, bneI_f, decide_true, decide_false, and_self, rpart_at]
        cases Za.partOk ((s.drop f).take (i - f)) <;> rfl
      rw [hp, List.all_cons]
      cases hq : Za.partOk ((s.drop f).take (i - f)) with
      | true =>
        rw [hq, if_pos rfl] at hstep
        rw [iter_next hstep, rzone_run hl m (i + 1) (i + 1) (by omega) (Nat.le_refl _) (fun j h1 h2 => by omega), Bool.true_and]
      | false => rw [hq, if_neg (by simp)] at hstep; rw [iter_end hstep]; rfl
    · have h5 : ¬ (((s.getD i 0).toNat : Nat) : Int) = 47 := fun q => hc (UInt8.toNat_inj.1 (by have : (47 : UInt8).toNat = 47 := rfl; omega))
      have hstep : F_ref07_Zone_L0 [.s s, .i ((f : Nat) : Int), .i ((i : Nat) : Int)] = some (.inl [.s s, .i ((f : Nat) : Int), .i ((i + 1 : Nat) : Int)]) := by
        unfold F_ref07_Zone_L0
        rw [onS_c, onI_c, onI_c]
        simp only [h1, h2, h3, h4, h5, e1, e2, e3, onI_c, onS_c, onB_c, onN_c, onL_c, Option.bind_some, Option.map_some, cond_true, cond_false, ↓onI_c, ↓onS_c, ↓onB_c, ↓onN_c, ↓onL_c, ↓Option.bind_some, ↓cond_true, ↓cond_false, decide_eq_true, decide_eq_false, Bool.not_true, Bool.not_false, Int.toNat_natCast, List.length_append, List.length_cons, List.length_nil, List.drop_zero, Nat.zero_add, Nat.add_zero, decT, decF, bneI_t, bneI_f, decide_true, decide_false, and_self]
      rw [iter_next hstep, rzone_run hl m (i + 1) f (by omega) (by omega) (fun j h1 h2 => by
        by_cases hj : j = i
        · subst hj; exact hc
        · exact hn j h1 (by omega))]
theorem rzone_at {s : List UInt8} (hl : s.length < 4611686018427387904) : F_ref07_Zone [.s s] = some [.b (Zo.zoneV s)] := by
  unfold F_ref07_Zone
  rw [onS_c]
  refine (rzone_run hl s.length 0 0 (by omega) (Nat.le_refl _) (fun j h1 h2 => by omega)).trans ?_
  rw [Zo.zoneV, List.drop_zero, Bool.and_comm]
end Go.Proofs.YtgmmcmfnniaekaaDoor
