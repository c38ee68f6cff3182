/-
  The small abstract machine: code, whole.
-/
import Derived.Test.YtcohbcdhcmajiaaDoorAx21
import Derived.Scope
namespace Go.Ax
open Go.RowKit
set_option linter.unusedVariables false

section
variable {P : Program} {G : Nat → Option (List AV)} {B : Nat} {Q : Ex → St → Prop} {τ : Tys}
variable {W0 : World} {S0 Sh : Nat → Prop} {ρ : Rho} {W : World} {s : St} {a : Act} {J : Jd}

theorem mem_dsts {l : List Oper} {o : Oper} {d : Nat} (h : o ∈ l) (hd : o.dst = some d) : d ∈ dstsT l := by
  induction l with
  | nil => cases h
  | cons p l ih =>
    unfold dstsT
    cases h with
    | head => rw [hd]; exact List.mem_cons_self ..
    | tail _ h =>
      split
      · exact List.mem_cons_of_mem _ (ih h)
      · exact ih h
theorem look_drop {ts : List Nat} {t : Nat} {x : AV} : ∀ {l : List (Nat × AV)}, look (dropT ts l) t = some x → look l t = some x ∧ t ∉ ts
  | [], h => by cases h
  | (k, v) :: l, h => by
    unfold dropT at h
    split at h
    · rename_i hc
      obtain ⟨h1, h2⟩ := look_drop h
      refine ⟨?_, h2⟩
      have : k ≠ t := fun e => by subst e; exact h2 (by simpa using hc)
      rw [look, if_neg this]; exact h1
    · rename_i hc
      rw [look] at h ⊢
      split at h
      · rename_i e; subst e; rw [if_pos rfl]; exact ⟨h, by simpa using hc⟩
      · rename_i e; rw [if_neg e]; exact look_drop h

/-- Operations that leave the memory as it is. -/
theorem pure_ops (hτ : ∀ t ti, τ t = some ti → TIok P t ti) (ops : Array Oper) {Q' : Exit → Act → World → Prop} (ds : List Nat) (base : List (Nat × AV)) (hbase : ∀ t x, look base t = some x → t ∉ ds) :
    ∀ (l : List Oper) (i : Nat), ops.toList.drop i = l → (∀ o ∈ l, isEff τ o = false) → (∀ o ∈ l, ∀ d, o.dst = some d → d ∈ ds) → ∀ (s : St) (a : Act), Sim G W0 S0 Sh ρ s a W → TR Sh W ρ s.nt base a.tmps →
    (T.prop P G B Q (opsT τ G ops.toList l s (.done .normal))) → (∀ s' a', Q .normal s' → Sim G W0 S0 Sh ρ s' a' W → s'.nt = s.nt → TR Sh W ρ s.nt base a'.tmps → Q' .normal a' W) → wpOps P ops Q' (List.range' i l.length) a W
  | [], i, hl, h1, h2, s, a, sim, hb, h, hK => hK s a h sim rfl hb
  | o :: l, i, hl, h1, h2, s, a, sim, hb, h, hK => by
    have hi : i < ops.toList.length := by
      rcases Nat.lt_or_ge i ops.toList.length with q | q
      · exact q
      · rw [List.drop_of_length_le q] at hl; cases hl
    have hoi : ops[i]? = some o := by
      have : (ops.toList.drop i)[0]? = some o := by rw [hl]; rfl
      simpa using this
    have hl' : ops.toList.drop (i + 1) = l := by rw [← List.drop_drop, hl]; rfl
    have put : ∀ v : Value, TR Sh W ρ s.nt base (a.put o.dst v).tmps := by
      intro v
      unfold Act.put
      cases hd : o.dst with
      | none => exact hb
      | some d =>
        refine ⟨by simpa using hb.1, fun t x q => ?_⟩
        obtain ⟨w, q1, q2⟩ := hb.2 t x q
        have hne : d ≠ t := fun e => hbase t x q (e ▸ h2 o (List.mem_cons_self ..) d hd)
        exact ⟨w, by rw [Array.getElem?_setIfInBounds, if_neg hne]; exact q1, q2⟩
    simp only [List.length_cons, List.range'_succ, wpOps, hoi]
    unfold opsT at h
    split at h
    · rename_i hd
      obtain ⟨s', hal, ⟨hg, h⟩ | ⟨hg, h⟩⟩ := ifGuard_inv h
      all_goals have hd : dstOk o s' = true := by unfold dstOk at hd ⊢; rw [hal.nt]; exact hd
      all_goals have sim' := sim.alike hal
      all_goals have hn' := hal.nt
      · rw [guard_sound sim.tr hg]
        simp only [if_true]
        refine .inl ?_
        unfold opT at h
        rw [if_neg (by rw [h1 o (List.mem_cons_self ..)]; exact Bool.false_ne_true)] at h
        obtain ⟨x, hx, hok⟩ := val_sound hτ h
        obtain ⟨v, r1, r2⟩ := hok Sh W ρ s'.nt a sim'.hr.glob sim'.hr.lr sim'.tr
        refine Oper.wp_value r1 ?_
        exact pure_ops hτ ops ds base hbase l (i + 1) hl' (fun p hp => h1 p (List.mem_cons_of_mem _ hp)) (fun p hp => h2 p (List.mem_cons_of_mem _ hp)) _ _ (sim'.put hd r2) (by rw [nt_put, hn']; exact put v) hx
          fun s' a' q1 q2 q3 q4 => hK s' a' q1 q2 ((q3.trans (nt_put _ _ _)).trans hn') (by rw [nt_put, hn'] at q4; exact q4)
      · rw [guard_sound sim.tr hg]
        simp only [Bool.false_eq_true, if_false]
        exact pure_ops hτ ops ds base hbase l (i + 1) hl' (fun p hp => h1 p (List.mem_cons_of_mem _ hp)) (fun p hp => h2 p (List.mem_cons_of_mem _ hp)) _ _ (sim'.put hd (.tuple (vs := #[]) rfl fun i x v p q => by simp at p)) (by rw [nt_put, hn']; exact put _) h
          fun s' a' q1 q2 q3 q4 => hK s' a' q1 q2 ((q3.trans (nt_put _ _ _)).trans hn') (by rw [nt_put, hn'] at q4; exact q4)
    · exact h.elim

theorem bool_sound (hτ : ∀ t ti, τ t = some ti → TIok P t ti) {id : Nat} {ops : Array Oper} {d : Nat} {K : St → T} {Q' : Exit → Act → World → Prop} (sim : Sim G W0 S0 Sh ρ s a W) (h : T.prop P G B Q (boolT τ G ops.toList d s K))
    (hK : ∀ s' a', (T.prop P G B Q (K s')) → Sim G W0 S0 Sh ρ s' a' W → Q' .normal a' W) : (Code.region id ops false).wp P Q' a W := by
  unfold boolT at h
  split at h
  · rename_i hc
    rw [Bool.and_eq_true] at hc
    have hp : ∀ o ∈ ops.toList, isEff τ o = false := fun o ho => by have := List.all_eq_true.1 hc.1 o ho; simpa using this
    refine wp_region ?_
    rw [List.range_eq_range', ← Array.length_toList]
    refine pure_ops (B := B) hτ ops (dstsT ops.toList) (dropT (dstsT ops.toList) s.tmps) (fun t x q => (look_drop q).2) ops.toList 0 rfl hp (fun o ho d hd => mem_dsts ho hd) s a sim ⟨sim.tr.1, fun t x q => sim.tr.2 t x (look_drop q).1⟩ h ?_
    rintro s' a' ⟨_, b, q1, q2⟩ hs hn ht
    refine hK _ a' q2 ⟨hs.defers, ?_, ht.1, fun t x q => ?_⟩
    · exact sim.hr
    · rw [look] at q
      split at q
      · rename_i e; subst e; cases q; exact hs.tr.2 _ _ q1
      · exact ht.2 t x q
  · exact h.elim

theorem LoopsP.wp {c : Code} {Q : Exit → Act → World → Prop} {a : Act} {W : World} (h : LoopsP P c Q a W) : (Code.loop c).wp P Q a W := by
  intro b k cs
  have key := h (fun a w => ∀ b k cs, ∃ e a' w', Q e a' w' ∧ Arrives P (lone (b.at a (.code c :: .inLoop c :: k)) cs w) b k cs e a' w') (by
    intro a w h b k cs
    obtain ⟨e, a₁, w₁, hq, harr⟩ := h b (.inLoop c :: k) cs
    cases e with
    | normal =>
      obtain ⟨e₂, a₂, w₂, hq₂, harr₂⟩ := hq b k cs
      exact ⟨e₂, a₂, w₂, hq₂, .of_steps (Steps.trans harr (.one step_inLoop)) harr₂⟩
    | exit id => exact ⟨_, a₁, w₁, hq, .pass (x := .inLoop c) rfl (fun _ _ => .inl (by simp)) harr⟩
    | goto l => exact ⟨_, a₁, w₁, hq, .pass (x := .inLoop c) rfl (fun _ _ => .inl (by simp)) harr⟩
    | ret => exact ⟨_, a₁, w₁, hq, .pass (x := .inLoop c) rfl (fun _ _ => .inl (by simp)) harr⟩
    | panic ch => exact ⟨_, a₁, w₁, hq, .pass (x := .inLoop c) rfl (fun _ _ => .inl (by simp)) harr⟩
    | outgrown => exact ⟨_, a₁, w₁, hq, .pass (x := .inLoop c) rfl (fun _ _ => .inl (by simp)) harr⟩) b k cs
  obtain ⟨e, a', w', hq, harr⟩ := key
  exact ⟨e, a', w', hq, .of_steps (.one step_loop) harr⟩
theorem LoopsP.step {c : Code} {Q : Exit → Act → World → Prop} {a : Act} {W : World} (h : c.wp P (Exit.then (LoopsP P c Q) Q) a W) : LoopsP P c Q a W :=
  fun R hR => hR a W (wp_mono h fun e a w q => by cases e <;> first | exact q R hR | exact q)
theorem LoopsP.mono {c : Code} {Q Q' : Exit → Act → World → Prop} {a : Act} {W : World} (h : LoopsP P c Q a W) (hq : ∀ e a w, Q e a w → Q' e a w) : LoopsP P c Q' a W :=
  fun R hR => h R fun a w k => hR a w (wp_mono k fun e a w q => by cases e <;> first | exact q | exact hq _ _ _ q)
theorem SLp.mono {c : Code} {s : St} {Q Q' : Ex → St → Prop} (h : SLp P G B c s Q) (hq : ∀ e st, Q e st → Q' e st) : SLp P G B c s Q' := by
  constructor
  intro W0 S0 Sh ρ a W h1 h2 h3
  refine (h.out W0 S0 Sh ρ a W h1 h2 h3).mono ?_
  rintro e a' W' ⟨ex, s', Sh', ρ', p1, p2, p3⟩
  exact ⟨ex, s', Sh', ρ', p1, hq _ _ p2, p3⟩

theorem know_alike {s : St} {c : Operand} {r : Bool} (h : s.ev G c = some (.bool r)) : s.Alike (s.know c r) := by
  unfold St.know
  split
  · exact .put h
  · exact .refl s

theorem keepK_sound {id : Nat} {s : St} {K : St → T} (h : T.prop P G B Q (keepK J id s K)) (sim : Sim G W0 S0 Sh ρ s a W) : ∃ s2, T.prop P G B Q (K s2) ∧ Sim G W0 S0 Sh ρ s2 a W := by
  unfold keepK at h
  split at h
  · exact ⟨s, h, sim⟩
  · refine ⟨_, h, sim.defers, sim.hr, sim.tr.1, fun t x q => ?_⟩
    have q : look (keepT _ s.tmps) t = some x := q
    rw [look_keep] at q
    split at q
    · exact sim.tr.2 t x q
    · cases q

/-- The whole of a piece of code. -/
theorem run_sound (hτ : ∀ t ti, τ t = some ti → TIok P t ti) (hmix : P.follows .mixedOrders = true) : ∀ (c : Code) (k : Ex → St → T) (Q' : Exit → Act → World → Prop) (s : St) (Sh : Nat → Prop) (ρ : Rho) (a : Act) (W : World), Sim G W0 S0 Sh ρ s a W → (T.prop P G B Q (runT τ G J c s k)) →
    (∀ ex e s' Sh' ρ' a' W', exOf e = some ex → (T.prop P G B Q (k ex s')) → ExtB B Sh ρ W Sh' ρ' W' → Sim G W0 S0 Sh' ρ' s' a' W' → Q' e a' W') → c.wp P Q' a W := by
  intro c
  induction c with
  | skip => intro k Q' s Sh ρ a W sim h hK; exact wp_skip (hK .normal .normal s Sh ρ a W rfl h ExtB.refl sim)
  | region id ops draw =>
    intro k Q' s Sh ρ a W sim h hK
    cases draw with
    | true => exact draw_sound hτ hmix sim h fun s' Sh' ρ' a' W' q1 q2 q3 => hK .normal .normal s' Sh' ρ' a' W' rfl q1 (q2.b B) q3
    | false =>
      simp only [runT] at h
      split at h
      · exact bool_sound hτ sim h fun s' a' q1 q2 => by
          obtain ⟨s2, p1, p2⟩ := keepK_sound q1 q2
          exact hK .normal .normal s2 Sh ρ a' W rfl p1 ExtB.refl p2
      refine wp_region ?_
      rw [List.range_eq_range', ← Array.length_toList]
      exact ops_sound hτ ops ops.toList 0 rfl s Sh ρ a W sim h fun s' Sh' ρ' a' W' q1 q2 q3 => by
        obtain ⟨s2, p1, p2⟩ := keepK_sound q1 q3
        exact hK .normal .normal s2 Sh' ρ' a' W' rfl p1 (q2.b B) p2
  | seq x y ihx ihy =>
    intro k Q' s Sh ρ a W sim h hK
    simp only [runT] at h
    split at h
    · have h : SWp P G B x s fun e st' => T.prop P G B Q (match e with | .normal => runT τ G J y st' k | e => k e st') := h
      refine wp_seq (wp_mono (h.out W0 S0 Sh ρ a W sim.defers sim.hr sim.tr) ?_)
      rintro e a' W' ⟨ex, s', Sh', ρ', he, hk, hx, h4, h5, h6⟩
      cases ex with
      | normal =>
        cases e <;> simp [exOf] at he
        exact ihy _ _ s' Sh' ρ' a' W' ⟨h6, h4, h5⟩ hk fun ex2 e2 s2 Sh2 ρ2 a2 W2 p1 p2 p3 p4 => hK ex2 e2 s2 Sh2 ρ2 a2 W2 p1 p2 (hx.trans p3) p4
      | exit i => cases e <;> simp [exOf] at he; subst he; exact hK _ _ s' Sh' ρ' a' W' rfl hk hx ⟨h6, h4, h5⟩
      | ret => cases e <;> simp [exOf] at he; exact hK _ _ s' Sh' ρ' a' W' rfl hk hx ⟨h6, h4, h5⟩
    refine wp_seq (ihx _ _ s Sh ρ a W sim h ?_)
    intro ex e s' Sh' ρ' a' W' he hk hx hs
    cases ex with
    | normal =>
      cases e <;> simp [exOf] at he
      exact ihy _ _ s' Sh' ρ' a' W' hs hk fun ex2 e2 s2 Sh2 ρ2 a2 W2 p1 p2 p3 p4 => hK ex2 e2 s2 Sh2 ρ2 a2 W2 p1 p2 (hx.trans p3) p4
    | exit i => cases e <;> simp [exOf] at he; subst he; exact hK _ _ s' Sh' ρ' a' W' rfl hk hx hs
    | ret => cases e <;> simp [exOf] at he; exact hK _ _ s' Sh' ρ' a' W' rfl hk hx hs
  | cond c x y ihx ihy =>
    intro k Q' s Sh ρ a W sim h hK
    simp only [runT] at h
    split at h
    · rename_i r hc
      have hv := ev_sound sim.hr.glob sim.tr hc
      cases r with
      | true =>
        have hv' : a.eval c = .bool true := by cases hq : a.eval c <;> rw [hq] at hv <;> cases hv; rfl
        exact wp_cond_true hv' (ihx _ _ _ Sh ρ a W (sim.alike (know_alike hc)) (h.1 rfl) hK)
      | false =>
        have hv' : a.eval c = .bool false := by cases hq : a.eval c <;> rw [hq] at hv <;> cases hv; rfl
        exact wp_cond_false hv' (ihy _ _ _ Sh ρ a W (sim.alike (know_alike hc)) (h.2 rfl) hK)
    · exact h.elim
  | block id c ih =>
    intro k Q' s Sh ρ a W sim h hK
    refine wp_block (ih _ _ s Sh ρ a W sim h ?_)
    intro ex e s' Sh' ρ' a' W' he hk hx hs
    cases ex with
    | normal => cases e <;> simp [exOf] at he; exact hK .normal .normal s' Sh' ρ' a' W' rfl hk hx hs
    | exit i =>
      cases e <;> simp [exOf] at he
      subst he
      simp only at hk
      unfold Exit.inBlock
      dsimp only
      split at hk
      · rename_i hi; rw [if_pos hi]; exact hK .normal .normal s' Sh' ρ' a' W' rfl hk hx hs
      · rename_i hi; rw [if_neg hi]; exact hK _ _ s' Sh' ρ' a' W' rfl hk hx hs
    | ret => cases e <;> simp [exOf] at he; exact hK _ _ s' Sh' ρ' a' W' rfl hk hx hs
  | loop c ih =>
    intro k Q' s Sh ρ a W sim h hK
    refine wp_mono (LoopsP.wp (h.out W0 S0 Sh ρ a W sim.defers sim.hr sim.tr)) ?_
    rintro e a' W' ⟨ex, s', Sh', ρ', h1, h2, h3, h4, h5, h6⟩
    exact hK ex e s' Sh' ρ' a' W' h1 h2 h3 ⟨h6, h4, h5⟩
  | scope c ih =>
    intro k Q' s Sh ρ a W sim h hK
    refine wp_scope_straight (ih _ _ s Sh ρ a W sim h ?_)
    intro ex e s' Sh' ρ' a' W' he hk hx hs
    have := hK ex e s' Sh' ρ' a' W' he hk hx hs
    cases e <;> first | exact this | simp [exOf] at he
  | label l => intro k Q' s Sh ρ a W sim h hK; exact wp_label (hK .normal .normal s Sh ρ a W rfl h ExtB.refl sim)
  | exit id => intro k Q' s Sh ρ a W sim h hK; exact wp_exit (hK _ _ s Sh ρ a W rfl h ExtB.refl sim)
  | ret => intro k Q' s Sh ρ a W sim h hK; exact wp_ret (hK _ _ s Sh ρ a W rfl h ExtB.refl sim)
  | _ => intro k Q' s Sh ρ a W sim h hK; exact h.elim

theorem SWp.of_run (hτ : ∀ t ti, τ t = some ti → TIok P t ti) (hmix : P.follows .mixedOrders = true) {c : Code} {s : St} {Q : Ex → St → Prop} (h : T.prop P G B Q (runT τ G J c s T.done)) : SWp P G B c s Q := by
  constructor
  intro W0 S0 Sh ρ a W h1 h2 h3
  refine run_sound hτ hmix c _ _ s Sh ρ a W ⟨h1, h2, h3⟩ h ?_
  intro ex e s' Sh' ρ' a' W' q1 q2 q3 q4
  exact ⟨ex, s', Sh', ρ', q1, q2, q3, q4.hr, q4.tr, q4.defers⟩

theorem SWp.mono {c : Code} {s : St} {Q Q' : Ex → St → Prop} (h : SWp P G B c s Q) (hq : ∀ e st, Q e st → Q' e st) : SWp P G B c s Q' := by
  constructor
  intro W0 S0 Sh ρ a W h1 h2 h3
  refine wp_mono (h.out W0 S0 Sh ρ a W h1 h2 h3) ?_
  rintro e a' W' ⟨ex, s', Sh', ρ', p1, p2, p3⟩
  exact ⟨ex, s', Sh', ρ', p1, hq _ _ p2, p3⟩

theorem T.mono : ∀ (t : T) {Q1 Q2 : Ex → St → Prop}, (∀ e s, Q1 e s → Q2 e s) → T.prop P G B Q1 t → T.prop P G B Q2 t := by
  intro t
  induction t with
  | fail => intro Q1 Q2 hq h; exact h
  | done e st => intro Q1 Q2 hq h; exact hq _ _ h
  | int e k ih => intro Q1 Q2 hq h; obtain ⟨r, h1, h2⟩ := h; exact ⟨r, h1, ih _ hq h2⟩
  | nat e k ih => intro Q1 Q2 hq h; obtain ⟨r, h1, h2⟩ := h; exact ⟨r, h1, ih _ hq h2⟩
  | str e k ih => intro Q1 Q2 hq h; obtain ⟨r, h1, h2⟩ := h; exact ⟨r, h1, ih _ hq h2⟩
  | bytes l k ih => intro Q1 Q2 hq h; obtain ⟨r, h1, h2⟩ := h; exact ⟨r, h1, ih _ hq h2⟩
  | cmp p k ih => intro Q1 Q2 hq h; exact ⟨fun q => ih _ hq (h.1 q), fun q => ih _ hq (h.2 q)⟩
  | req p k ih => intro Q1 Q2 hq h; exact ⟨h.1, ih _ hq h.2⟩
  | idx t l k ih => intro Q1 Q2 hq h; obtain ⟨x, y, h1, h2, h3⟩ := h; exact ⟨x, y, h1, h2, ih _ hq h3⟩
  | lst l k ih => intro Q1 Q2 hq h; obtain ⟨r, h1, h2⟩ := h; exact ⟨r, h1, ih _ hq h2⟩
  | call f args hh n k ih =>
    intro Q1 Q2 hq h
    constructor
    intro W0 S0 Sh ρ W vs p1 p2
    refine (h.out W0 S0 Sh ρ W vs p1 p2).mono ?_
    rintro e W' ⟨x, v, H', n', Sh', ρ', r1, r2, r3⟩
    exact ⟨x, v, H', n', Sh', ρ', r1, ih _ _ _ hq r2, r3⟩
  | fcall f args hh k ih =>
    intro Q1 Q2 hq h
    obtain ⟨fargs, res, p1, p2, p3, p4⟩ := h.out
    exact ⟨⟨fargs, res, p1, p2, p3, ih _ hq p4⟩⟩
  | loop c st k ih => intro Q1 Q2 hq h; exact SLp.mono h fun e s' q => ih _ _ hq q
  | cut c st k ih => intro Q1 Q2 hq h; exact SWp.mono h fun e s' q => ih _ _ hq q
  | join t d k iht ih => intro Q1 Q2 hq h; exact iht (fun e s' ⟨p, b, q1, q2⟩ => ⟨p, b, q1, ih _ hq q2⟩) h
  | evI n k ih => intro Q1 Q2 hq h; exact ih _ hq h
  | evN n k ih => intro Q1 Q2 hq h; exact ih _ hq h
  | evS n k ih => intro Q1 Q2 hq h; exact ih _ hq h
  | evL n k ih => intro Q1 Q2 hq h; exact ih _ hq h
  | evH n k ih => intro Q1 Q2 hq h; exact ih _ hq h
  | evM n k ih => intro Q1 Q2 hq h; exact ih _ hq h

/-- A state that says less; the blocks from 'B' on may have other numbers. -/
def St.le (G : Nat → Option (List AV)) (B : Nat) (s s2 : St) : Prop :=
  ∀ W0 S0 Sh ρ (tmps : Array Value) W, HRel G W0 S0 Sh ρ s.heap s.next W → TR Sh W ρ s.nt s.tmps tmps → ∃ ρ2, (∀ id b, id < B → ρ id = some b → ρ2 id = some b) ∧ HRel G W0 S0 Sh ρ2 s2.heap s2.next W ∧ TR Sh W ρ2 s2.nt s2.tmps tmps

theorem St.le_refl (s : St) : s.le G B s := fun _ _ _ ρ _ _ h1 h2 => ⟨ρ, fun _ _ _ h => h, h1, h2⟩

/-- The rounds of a loop. -/
def roundsP (P : Program) (τ : Tys) (G : Nat → Option (List AV)) (J : Jd) (B : Nat) (c : Code) (Q : Ex → St → Prop) : Nat → St → Prop
  | 0, _ => False
  | n + 1, s => T.prop P G B (fun e s' => match e with | .normal => ∃ s2, s'.le G B s2 ∧ roundsP P τ G J B c Q n s2 | e => Q e s') (runT τ G J c s T.done)

theorem SLp.rounds (hτ : ∀ t ti, τ t = some ti → TIok P t ti) (hmix : P.follows .mixedOrders = true) {c : Code} {Q : Ex → St → Prop} (n : Nat) {s : St} (h : roundsP P τ G J B c Q n s) : SLp P G B c s Q := by
  constructor
  intro W0 S0 Sh ρ a W h1 h2 h3
  have key : ∀ (n : Nat) (s : St) Sh' ρ' a' W', roundsP P τ G J B c Q n s → ExtB B Sh ρ W Sh' ρ' W' → Sim G W0 S0 Sh' ρ' s a' W' → LoopsP P c (Post G B W0 S0 Sh ρ W Q) a' W' := by
    intro n
    induction n with
    | zero => intro s Sh' ρ' a' W' h; exact h.elim
    | succ n ih =>
      intro s Sh' ρ' a' W' h hx hs
      refine .step ?_
      refine run_sound hτ hmix c _ _ s Sh' ρ' a' W' hs h ?_
      intro ex e s2 Sh2 ρ2 a2 W2 q1 q2 q3 q4
      cases ex with
      | normal =>
        cases e <;> simp [exOf] at q1
        obtain ⟨s3, l1, l2⟩ := q2
        obtain ⟨ρ3, m0, m1, m2⟩ := l1 _ _ _ _ _ _ q4.hr q4.tr
        exact ih s3 Sh2 ρ3 a2 W2 l2 ((hx.trans q3).trans ⟨fun _ h => h, m0, fun _ _ => rfl, fun b cs e fr h => ⟨cs, fr, h, rfl⟩⟩) ⟨q4.defers, m1, m2⟩
      | exit i => cases e <;> simp [exOf] at q1; subst q1; exact ⟨_, s2, Sh2, ρ2, rfl, q2, hx.trans q3, q4.hr, q4.tr, q4.defers⟩
      | ret => cases e <;> simp [exOf] at q1; exact ⟨_, s2, Sh2, ρ2, rfl, q2, hx.trans q3, q4.hr, q4.tr, q4.defers⟩
  exact key n s Sh ρ a W h ExtB.refl ⟨h1, h2, h3⟩

/-- One round of a loop. -/
theorem SLp.unroll (hτ : ∀ t ti, τ t = some ti → TIok P t ti) (hmix : P.follows .mixedOrders = true) {c : Code} {Q : Ex → St → Prop} {s : St}
    (h : T.prop P G B (fun e s' => match e with | .normal => SLp P G B c s' Q | e => Q e s') (runT τ G J c s T.done)) : SLp P G B c s Q := by
  constructor
  intro W0 S0 Sh ρ a W h1 h2 h3
  refine .step ?_
  refine run_sound hτ hmix c _ _ s Sh ρ a W ⟨h1, h2, h3⟩ h ?_
  intro ex e s2 Sh2 ρ2 a2 W2 q1 q2 q3 q4
  cases ex with
  | normal =>
    cases e <;> simp [exOf] at q1
    have q2 : SLp P G B c s2 Q := q2
    refine (q2.out W0 S0 Sh2 ρ2 a2 W2 q4.defers q4.hr q4.tr).mono ?_
    rintro e a' W' ⟨ex, st', Sh', ρ', p1, p2, p3, p4⟩
    exact ⟨ex, st', Sh', ρ', p1, p2, q3.trans p3, p4⟩
  | exit i => cases e <;> simp [exOf] at q1; subst q1; exact ⟨_, s2, Sh2, ρ2, rfl, q2, q3, q4.hr, q4.tr, q4.defers⟩
  | ret => cases e <;> simp [exOf] at q1; exact ⟨_, s2, Sh2, ρ2, rfl, q2, q3, q4.hr, q4.tr, q4.defers⟩
end
end Go.Ax
