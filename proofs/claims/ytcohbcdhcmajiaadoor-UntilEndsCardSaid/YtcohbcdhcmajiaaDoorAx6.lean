/-
  The small abstract machine: operations that leave the memory as it is, the others of them.
-/
import Derived.Test.YtcohbcdhcmajiaaDoorAx5
import Derived.Laws.Strings
namespace Go.Ax
open Go.RowKit
set_option linter.unusedVariables false

section
variable {P : Program} {G : Nat → Option (List AV)} {B : Nat} {Q : Ex → St → Prop} {τ : Tys}

theorem isK_inv {t : Nat} {p : TK → Bool} (h : isK τ t p = true) : ∃ ti, τ t = some ti ∧ p ti.kind = true := by
  unfold isK at h
  split at h
  · exact ⟨_, by assumption, h⟩
  · cases h
theorem isK_und (hτ : ∀ t ti, τ t = some ti → TIok P t ti) {t : Nat} {p : TK → Bool} (h : isK τ t p = true) : ∃ ti d, τ t = some ti ∧ p ti.kind = true ∧ P.underlying t = some d ∧ kindOk ti.kind d ∧ (∀ ms, d = .interface ms → ti.kind = .iface) := by
  obtain ⟨ti, h1, h2⟩ := isK_inv h
  obtain ⟨i, z, d, h3, h4, h5, h6, h7, h8, h9, _⟩ := (hτ t ti h1).ex
  exact ⟨ti, d, h1, h2, h4, h8, h9⟩
theorem isK_bool (hτ : ∀ t ti, τ t = some ti → TIok P t ti) {t : Nat} (h : isK τ t TK.isBool = true) : P.underlying t = some .bool := by
  obtain ⟨ti, d, h1, h2, h3, h4, h5⟩ := isK_und hτ h
  cases hk : ti.kind <;> simp only [hk, TK.isBool] at h2 <;> first | (rw [hk] at h4; rw [h3]; exact congrArg some h4) | cases h2
theorem isK_str (hτ : ∀ t ti, τ t = some ti → TIok P t ti) {t : Nat} (h : isK τ t TK.isStr = true) : P.underlying t = some .string := by
  obtain ⟨ti, d, h1, h2, h3, h4, h5⟩ := isK_und hτ h
  cases hk : ti.kind <;> simp only [hk, TK.isStr] at h2 <;> first | (rw [hk] at h4; rw [h3]; exact congrArg some h4) | cases h2
theorem isK_u8 (hτ : ∀ t ti, τ t = some ti → TIok P t ti) {t : Nat} (h : isK τ t TK.isU8 = true) : P.underlying t = some (.int .u8) := by
  obtain ⟨ti, d, h1, h2, h3, h4, h5⟩ := isK_und hτ h
  cases hk : ti.kind with
  | int k => rw [hk] at h2 h4; cases k <;> simp only [TK.isU8] at h2 <;> first | (rw [h3]; exact congrArg some h4) | cases h2
  | _ => rw [hk] at h2; cases h2
theorem isK_slice (hτ : ∀ t ti, τ t = some ti → TIok P t ti) {t : Nat} (h : isK τ t TK.isSlice = true) : ∃ e, P.underlying t = some (.slice e) := by
  obtain ⟨ti, d, h1, h2, h3, h4, h5⟩ := isK_und hτ h
  cases hk : ti.kind <;> simp only [hk, TK.isSlice] at h2 <;> first | (rw [hk] at h4; exact ⟨_, h3.trans (congrArg some h4)⟩) | cases h2
theorem isK_func (hτ : ∀ t ti, τ t = some ti → TIok P t ti) {t : Nat} (h : isK τ t TK.isFunc = true) : ∃ a b c, P.underlying t = some (.func a b c) := by
  obtain ⟨ti, d, h1, h2, h3, h4, h5⟩ := isK_und hτ h
  cases hk : ti.kind <;> simp only [hk, TK.isFunc] at h2 <;> first | (rw [hk] at h4; obtain ⟨a, b, c, rfl⟩ := h4; exact ⟨a, b, c, h3⟩) | cases h2


/-- Comparisons and sums of numbers. -/
theorem int_sound {op k a b K} (h : (T.prop P G B Q (intT op k a b K))) (x y : Int) (hx : a.v = x) (hy : b.v = y) :
    ∃ r, (T.prop P G B Q (K r)) ∧ ∀ Sh W ρ, ∃ v, (if isShift op then Op.shift op k x k y else match op with
      | .add | .sub | .mul => Op.intArith op k x y
      | .quo | .rem => Op.intDiv op k x y
      | .and | .or | .xor | .andNot => Op.intBits op k x y
      | _ => Op.intCmp op x y).run P W = .ok v W ∧ VR Sh W ρ r v := by
  subst hx hy
  unfold intT at h
  cases op <;> dsimp only at h
  case add | sub | mul | and | or | xor | andNot =>
    obtain ⟨r, hr, h⟩ := arithT_inv h
    exact ⟨_, h, fun Sh W ρ => ⟨_, rfl, .int (by rw [hr]; rfl)⟩⟩
  case quo | rem =>
    obtain ⟨hq, h⟩ := reqB_inv h
    obtain ⟨r, hr, h⟩ := arithT_inv h
    have hq' : b.v ≠ 0 := by simpa using hq
    exact ⟨_, h, fun Sh W ρ => ⟨_, by simp only [isShift, Op.intDiv, hq', if_false, Bool.false_eq_true]; rfl, .int (by rw [hr]; rfl)⟩⟩
  case shl | shr =>
    obtain ⟨hq, h⟩ := reqB_inv h
    obtain ⟨r, hr, h⟩ := arithT_inv h
    have hq' : ¬ b.v < 0 := by have := of_decide_eq_true hq; omega
    exact ⟨_, h, fun Sh W ρ => ⟨_, by simp only [isShift, if_true, Op.shift, hq', if_false]; rfl, .int (by rw [hr]; rfl)⟩⟩
  all_goals
    have h := cmpT_inv h
    exact ⟨_, h, fun Sh W ρ => ⟨_, rfl, .bool⟩⟩

def plainV : Value → Bool
  | .nilIface | .agg _ => false
  | _ => true
theorem eqGuard_plain {op : BinOp} {t : TypeId} {x y : Operand} {a b : Value} (h : plainV a = true) (w : World) : (eqGuard op t x y a b).run P w = .ok () w := by
  cases a <;> first | (simp only [plainV, Bool.false_eq_true] at h; done) | (unfold eqGuard; cases op <;> rfl)

theorem bin_run {op : BinOp} {t : TypeId} {x y : Operand} {a b v : Value} {W : World} (h : plainV a = true) (hr : (binOp op t a b).run P W = .ok v W) :
    (do eqGuard op t x y a b; binOp op t a b : Sem Value).run P W = .ok v W := by
  rw [Sem.run_bind, eqGuard_plain h]; exact hr

theorem equalIn_bool {t : TypeId} (hu : P.underlying t = some .bool) (d : Nat) (a b : Bool) (W : World) : (Op.equalIn (d + 1) t (.bool a) (.bool b)).run P W = .ok (a == b) W := by
  simp [Op.equalIn, run_underlying hu]
theorem equalIn_slice_l {t e : TypeId} (hu : P.underlying t = some (.slice e)) (d : Nat) (b : Option Addr) (n m : Nat) (W : World) : (Op.equalIn (d + 1) t (.slice none 0 0) (.slice b n m)).run P W = .ok b.isNone W := by
  simp [Op.equalIn, run_underlying hu]
theorem equalIn_slice_r {t e : TypeId} (hu : P.underlying t = some (.slice e)) (d : Nat) (b : Addr) (n m : Nat) (W : World) : (Op.equalIn (d + 1) t (.slice (some b) n m) (.slice none 0 0)).run P W = .ok false W := by
  simp [Op.equalIn, run_underlying hu]
theorem equalIn_func1 {t : TypeId} {a b c} (hu : P.underlying t = some (.func a b c)) (d : Nat) (W : World) : (Op.equalIn (d + 1) t .nilFunc .nilFunc).run P W = .ok true W := by
  simp [Op.equalIn, run_underlying hu]
theorem equalIn_func2 {t : TypeId} {a b c} (hu : P.underlying t = some (.func a b c)) (d : Nat) (f : Go.Fn) (x y : Array Value) (W : World) : (Op.equalIn (d + 1) t .nilFunc (.func f x y)).run P W = .ok false W := by
  simp [Op.equalIn, run_underlying hu]
theorem equalIn_func3 {t : TypeId} {a b c} (hu : P.underlying t = some (.func a b c)) (d : Nat) (f : Go.Fn) (x y : Array Value) (W : World) : (Op.equalIn (d + 1) t (.func f x y) .nilFunc).run P W = .ok false W := by
  simp [Op.equalIn, run_underlying hu]
theorem eql_run {t : TypeId} {x y : Value} {b : Bool} {W : World} (h : (Op.equalIn (9999 + 1) t x y).run P W = .ok b W) (hb : binOp .eql t x y = (do pure (.bool (← Op.equal t x y)))) : (binOp .eql t x y).run P W = .ok (.bool b) W := by
  have h' : (Op.equal t x y).run P W = .ok b W := h
  rw [hb, Sem.run_bind, h']; rfl
theorem neq_run {t : TypeId} {x y : Value} {b : Bool} {W : World} (h : (Op.equalIn (9999 + 1) t x y).run P W = .ok b W) (hb : binOp .neq t x y = (do pure (.bool (!(← Op.equal t x y))))) : (binOp .neq t x y).run P W = .ok (.bool (!b)) W := by
  have h' : (Op.equal t x y).run P W = .ok b W := h
  rw [hb, Sem.run_bind, h']; rfl

theorem eqCell_sound {Sh : Nat → Prop} {W : World} {ρ : Rho} {tk : TK} {x y : AV} {p : Unit → Bool} (h : eqCell tk x y = some p) {a b : Value} (ha : VR Sh W ρ x a) (hb : VR Sh W ρ y b) : KV tk a ∧ KV tk b ∧ eqVal a b = p () := by
  unfold eqCell at h
  split at h
  · split at h
    · rename_i hk
      obtain ⟨rfl, rfl⟩ := hk
      cases h
      cases ha with | int ha => cases hb with | int hb =>
      subst ha hb
      exact ⟨⟨_, rfl⟩, ⟨_, rfl⟩, rfl⟩
    · cases h
  · cases h
    cases ha; cases hb
    exact ⟨⟨_, rfl⟩, ⟨_, rfl⟩, rfl⟩
  · cases h
    cases ha with | @str _ _ va ha => cases hb with | @str _ _ vb hb =>
    refine ⟨⟨_, rfl⟩, ⟨_, rfl⟩, ?_⟩
    show (va.toList == vb.toList) = _
    rw [ByteArray.toList_eq, ByteArray.toList_eq, ha, hb]
  · cases h
theorem eqCells_sound {Sh : Nat → Prop} {W : World} {ρ : Rho} : ∀ {l : List TK} {xs ys : List AV} {p : Unit → Bool}, eqCells l xs ys = some p → ∀ {vs ws : List Value}, VRL Sh W ρ xs vs → VRL Sh W ρ ys ws → KVs l vs ∧ KVs l ws ∧ eqVals vs ws = p ()
  | [], [], [], p, h, vs, ws, hv, hw => by
    cases h
    rw [hv.unnil, hw.unnil]
    exact ⟨⟨rfl, fun i tk v q => by simp at q⟩, ⟨rfl, fun i tk v q => by simp at q⟩, rfl⟩
  | tk :: l, x :: xs, y :: ys, p, h, vs, ws, hv, hw => by
    unfold eqCells at h
    split at h
    · rename_i p1 q1 h1 h2
      cases h
      obtain ⟨v, vs, rfl, hv1, hv2⟩ := hv.uncons
      obtain ⟨w, ws, rfl, hw1, hw2⟩ := hw.uncons
      obtain ⟨a1, a2, a3⟩ := eqCell_sound h1 hv1 hw1
      obtain ⟨b1, b2, b3⟩ := eqCells_sound h2 hv2 hw2
      have mk : ∀ {u : Value} {us : List Value}, KV tk u → KVs l us → KVs (tk :: l) (u :: us) := fun hu hus => ⟨by simp [hus.1], fun i tk' v' p q => by
        cases i with
        | zero => cases p; cases q; exact hu
        | succ i => exact hus.2 i tk' v' (by simpa using p) (by simpa using q)⟩
      exact ⟨mk a1 b1, mk a2 b2, by rw [eqVals, a3, b3]⟩
    · cases h
  | [], [], _ :: _, p, h, vs, ws, hv, hw => by cases h
  | [], _ :: _, _, p, h, vs, ws, hv, hw => by cases h
  | _ :: _, [], _, p, h, vs, ws, hv, hw => by cases h
  | _ :: _, _ :: _, [], p, h, vs, ws, hv, hw => by cases h
theorem eqGuard_agg' {op : BinOp} {t : TypeId} {x y : Operand} {xs ys : Array Value} (hm : P.eqGuardType P.depth t = false) (w : World) : (eqGuard op t x y (.agg xs) (.agg ys)).run P w = .ok () w := run_eqGuard_agg w op t x y xs ys hm
theorem eqAgg_sound {t : Nat} {l : List TK} {op : BinOp} {xs ys : List AV} {K} (hl : l ≠ [] → EqOk P t l) (h : T.prop P G B Q (eqAgg l op xs ys K)) {b1 b2 : Bool} : ∃ r, (T.prop P G B Q (K r)) ∧ ∀ Sh W ρ a b (p q : Operand), VR Sh W ρ (.agg b1 xs) a → VR Sh W ρ (.agg b2 ys) b →
    ∃ v, (do eqGuard op t p q a b; binOp op t a b : Sem Value).run P W = .ok v W ∧ VR Sh W ρ r v := by
  unfold eqAgg at h
  split at h
  · exact h.elim
  rename_i l' hne
  have hq := hl hne
  obtain ⟨n, hn, hrun⟩ := hq.run
  split at h
  rotate_left
  · exact h.elim
  rename_i pr hpr
  have key : ∀ Sh W ρ a b (p q : Operand), VR Sh W ρ (.agg b1 xs) a → VR Sh W ρ (.agg b2 ys) b → ∃ va vb : Array Value, a = .agg va ∧ b = .agg vb ∧ (Op.equalIn (9999 + 1) t (.agg va) (.agg vb)).run P W = .ok (pr ()) W := by
    intro Sh W ρ a b p q ha hb
    cases ha with | @agg _ _ _ va l1 v1 o1 => cases hb with | @agg _ _ _ vb l2 v2 o2 =>
    obtain ⟨k1, k2, k3⟩ := eqCells_sound (Sh := Sh) (W := W) (ρ := ρ) hpr (vs := va.toList) (ws := vb.toList) ⟨by simp [l1], fun i x v p q => v1 i x v p (by rw [Array.getElem?_toList] at q; exact q)⟩ ⟨by simp [l2], fun i x v p q => v2 i x v p (by rw [Array.getElem?_toList] at q; exact q)⟩
    have := hrun (10000 - n) W va vb k1 k2
    rw [Nat.sub_add_cancel hn, k3] at this
    exact ⟨va, vb, rfl, rfl, this⟩
  split at h
  · cases hp : pr () with
    | true =>
      refine ⟨_, h.1 hp, fun Sh W ρ a b p q ha hb => ?_⟩
      obtain ⟨va, vb, rfl, rfl, hr⟩ := key Sh W ρ a b p q ha hb
      refine ⟨.bool true, ?_, .bool⟩
      rw [Sem.run_bind, eqGuard_agg' hq.guard, Result.andThen_ok]
      rw [hp] at hr
      exact eql_run hr rfl
    | false =>
      refine ⟨_, h.2 hp, fun Sh W ρ a b p q ha hb => ?_⟩
      obtain ⟨va, vb, rfl, rfl, hr⟩ := key Sh W ρ a b p q ha hb
      refine ⟨.bool false, ?_, .bool⟩
      rw [Sem.run_bind, eqGuard_agg' hq.guard, Result.andThen_ok]
      rw [hp] at hr
      exact eql_run hr rfl
  · cases hp : pr () with
    | true =>
      refine ⟨_, h.1 hp, fun Sh W ρ a b p q ha hb => ?_⟩
      obtain ⟨va, vb, rfl, rfl, hr⟩ := key Sh W ρ a b p q ha hb
      refine ⟨.bool (!true), ?_, .bool⟩
      rw [Sem.run_bind, eqGuard_agg' hq.guard, Result.andThen_ok]
      rw [hp] at hr
      exact neq_run hr rfl
    | false =>
      refine ⟨_, h.2 hp, fun Sh W ρ a b p q ha hb => ?_⟩
      obtain ⟨va, vb, rfl, rfl, hr⟩ := key Sh W ρ a b p q ha hb
      refine ⟨.bool (!false), ?_, .bool⟩
      rw [Sem.run_bind, eqGuard_agg' hq.guard, Result.andThen_ok]
      rw [hp] at hr
      exact neq_run hr rfl
  · exact h.elim
theorem bin_sound (hτ : ∀ t ti, τ t = some ti → TIok P t ti) {t op x y K} (h : (T.prop P G B Q (binT τ t op x y K))) : ∃ r, (T.prop P G B Q (K r)) ∧ ∀ Sh W ρ a b (p q : Operand), VR Sh W ρ x a → VR Sh W ρ y b →
    ∃ v, (do eqGuard op t p q a b; binOp op t a b : Sem Value).run P W = .ok v W ∧ VR Sh W ρ r v := by
  unfold binT at h
  split at h
  · -- numbers
    rename_i k a k' b
    have h' : (isShift op = true ∨ k = k') ∧ (T.prop P G B Q (intT op k a b K)) := by
      split at h
      · exact ⟨.inl (by assumption), h⟩
      · split at h
        · exact ⟨.inr (by assumption), h⟩
        · exact h.elim
    obtain ⟨hk, h⟩ := h'
    obtain ⟨r, h1, h2⟩ := int_sound h a.v b.v rfl rfl
    refine ⟨r, h1, fun Sh W ρ va vb p q ha hb => ?_⟩
    cases ha with | int ha => cases hb with | int hb =>
    subst ha hb
    obtain ⟨v, h3, h4⟩ := h2 Sh W ρ
    refine ⟨v, bin_run rfl ?_, h4⟩
    rw [← h3]
    cases op <;> rcases hk with hk | hk <;> first | (simp only [isShift, Bool.false_eq_true] at hk; done) | (try subst hk) <;> simp only [binOp, isShift, if_true, if_false, ne_eq, not_true_eq_false, Bool.false_eq_true, Op.shift]
  · -- strings
    rename_i a b
    split at h
    · obtain ⟨hq, h⟩ := reqB_inv h
      obtain ⟨r, hr, h⟩ := strCat_inv h
      refine ⟨_, h, fun Sh W ρ va vb p q ha hb => ?_⟩
      cases ha with | @str _ _ va ha => cases hb with | @str _ _ vb hb =>
      have hq' := of_decide_eq_true hq
      have e1 : va.size = a.v.length := by show va.data.size = _; rw [← ha, Array.length_toList]
      have e2 : vb.size = b.v.length := by show vb.data.size = _; rw [← hb, Array.length_toList]
      refine ⟨.string (va ++ vb), bin_run rfl ?_, .str (by rw [hr, ← ha, ← hb]; simp)⟩
      simp only [binOp, Op.stringOp]
      rw [if_neg (by rw [e1, e2]; show ¬ _ > (9223372036854775807 : Int); omega)]
      rfl
    · split at h
      · rename_i hcmp
        have h := cmpT_inv h
        refine ⟨_, h, fun Sh W ρ va vb p q ha hb => ?_⟩
        cases ha with | @str _ _ va ha => cases hb with | @str _ _ vb hb =>
        refine ⟨_, bin_run rfl ?_, .bool⟩
        rw [← ha, ← hb]
        cases op <;> simp only [isCmp, Bool.false_eq_true] at hcmp <;> simp [binOp, Op.stringOp, cmpS, ByteArray.toList_eq] <;> rfl
      · exact h.elim
  · -- bools
    rename_i a b
    split at h
    · rename_i hk
      have hu := isK_bool hτ hk
      split at h
      · refine ⟨_, h, fun Sh W ρ va vb p q ha hb => ?_⟩
        cases ha; cases hb
        exact ⟨_, bin_run rfl (eql_run (equalIn_bool hu _ _ _ _) rfl), .bool⟩
      · refine ⟨_, h, fun Sh W ρ va vb p q ha hb => ?_⟩
        cases ha; cases hb
        exact ⟨_, bin_run rfl (neq_run (equalIn_bool hu _ _ _ _) rfl), .bool⟩
      · exact h.elim
    · exact h.elim
  all_goals first | exact h.elim | skip
  all_goals try
    (split at h
     · rename_i ti hti
       exact eqAgg_sound (fun hne => (hτ _ _ hti).eq hne) h
     · exact h.elim)
  all_goals
    split at h
    rotate_left
    · exact h.elim
    rename_i hk
    unfold nilB at h
    split at h
    rotate_left 2
    · exact h.elim
    all_goals
      refine ⟨_, h, fun Sh W ρ va vb p q ha hb => ?_⟩
      cases ha; cases hb
      first
        | (obtain ⟨e, hu⟩ := isK_slice hτ hk
           first
             | exact ⟨_, bin_run rfl (eql_run (equalIn_slice_l hu _ _ _ _ _) rfl), .bool⟩
             | exact ⟨_, bin_run rfl (neq_run (equalIn_slice_l hu _ _ _ _ _) rfl), .bool⟩
             | exact ⟨_, bin_run rfl (eql_run (equalIn_slice_r hu _ _ _ _ _) rfl), .bool⟩
             | exact ⟨_, bin_run rfl (neq_run (equalIn_slice_r hu _ _ _ _ _) rfl), .bool⟩)
        | (obtain ⟨a, b, c, hu⟩ := isK_func hτ hk
           first
             | exact ⟨_, bin_run rfl (eql_run (equalIn_func1 hu _ _) rfl), .bool⟩
             | exact ⟨_, bin_run rfl (neq_run (equalIn_func1 hu _ _) rfl), .bool⟩
             | exact ⟨_, bin_run rfl (eql_run (equalIn_func2 hu _ _ _ _ _) rfl), .bool⟩
             | exact ⟨_, bin_run rfl (neq_run (equalIn_func2 hu _ _ _ _ _) rfl), .bool⟩
             | exact ⟨_, bin_run rfl (eql_run (equalIn_func3 hu _ _ _ _ _) rfl), .bool⟩
             | exact ⟨_, bin_run rfl (neq_run (equalIn_func3 hu _ _ _ _ _) rfl), .bool⟩)

theorem un_sound {op x K} (h : (T.prop P G B Q (unT op x K))) : ∃ r, (T.prop P G B Q (K r)) ∧ ∀ Sh W ρ a, VR Sh W ρ x a → ∃ v, (Op.unary op a).run P W = .ok v W ∧ VR Sh W ρ r v := by
  unfold unT at h
  split at h
  · refine ⟨_, h, fun Sh W ρ a ha => ?_⟩
    cases ha
    exact ⟨_, rfl, .bool⟩
  · obtain ⟨r, hr, h⟩ := arithT_inv h
    refine ⟨_, h, fun Sh W ρ a ha => ?_⟩
    cases ha with | int ha =>
    exact ⟨_, rfl, .int (by rw [hr, ← ha]; rfl)⟩
  · obtain ⟨r, hr, h⟩ := arithT_inv h
    refine ⟨_, h, fun Sh W ρ a ha => ?_⟩
    cases ha with | int ha =>
    exact ⟨_, rfl, .int (by rw [hr, ← ha]; rfl)⟩
  · exact h.elim
end
end Go.Ax
