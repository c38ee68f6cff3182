/-
  The small abstract machine: functions.
-/
import Derived.Test.YtcohbcdhcmajiaaDoorAx19
namespace Go.Ax
open Go.RowKit
set_option linter.unusedVariables false

section
variable {P : Program} {G : Nat → Option (List AV)} {B : Nat} {Q : Ex → St → Prop} {τ : Tys}
variable {W0 : World} {S0 Sh : Nat → Prop} {ρ : Rho} {W : World} {s : St} {a : Act} {J : Jd}

def resOp (tmps : Array Value) (r : ResultVar) : Sem Value :=
  match r with
  | .tmp t => pure (tmps.getD t undef)
  | .cell a t => do loadVar t (← asAddr (tmps.getD a undef))

theorem res_sound (hτ : ∀ t ti, τ t = some ti → TIok P t ti) (sim : Sim G W0 S0 Sh ρ s a W) : ∀ (l : List ResultVar) (K : List AV → T), (T.prop P G B Q (resT τ s l K)) → ∃ xs vs, (T.prop P G B Q (K xs)) ∧ VRL Sh W ρ xs vs ∧
    (l.mapM (resOp a.tmps)).run P W = .ok vs W
  | [], K, h => ⟨[], [], h, .nil, rfl⟩
  | .tmp t :: l, K, h => by
    unfold resT at h
    split at h
    · rename_i v hv
      obtain ⟨xs, vs, h1, h2, h3⟩ := res_sound hτ sim l _ h
      have := ev_sound sim.hr.glob sim.tr (show s.ev G (.tmp t) = some v from hv)
      refine ⟨v :: xs, a.tmps.getD t undef :: vs, h1, .cons this h2, ?_⟩
      simp only [List.mapM_cons, resOp, Sem.run_bind, Sem.run_pure, Result.andThen_ok]
      rw [h3]; rfl
    · exact h.elim
  | .cell b t :: l, K, h => by
    unfold resT at h
    split at h
    · rename_i x hx
      obtain ⟨y, h, hk⟩ := load_sound hτ h
      obtain ⟨xs, vs, h1, h2, h3⟩ := res_sound hτ sim l _ h
      have hxv := ev_sound sim.hr.glob sim.tr (show s.ev G (.tmp b) = some x from hx)
      obtain ⟨v', r1, r2⟩ := hk Sh W ρ _ sim.hr.lr hxv
      refine ⟨y :: xs, v' :: vs, h1, .cons r2 h2, ?_⟩
      have e : (do loadVar t (← asAddr (a.tmps.getD b undef)) : Sem Value).run P W = .ok v' W := by
        have r1' : (Instr.loadAt t (a.tmps.getD b undef)).run P W = .ok v' W := r1
        cases hq : a.tmps.getD b undef with
        | pointer ad =>
          cases ad with
          | some ad => rw [hq] at r1'; simpa [Instr.loadAt, Instr.sureAddr, asAddr] using r1'
          | none => rw [hq] at r1'; simp [Instr.loadAt, Instr.sureAddr, stuck, Sem.run] at r1'
        | _ => rw [hq] at r1'; simp [Instr.loadAt, Instr.sureAddr, stuck, Sem.run] at r1'
      have e' : (resOp a.tmps (.cell b t)).run P W = .ok v' W := e
      simp only [List.mapM_cons, Sem.run_bind, e', Result.andThen_ok]
      rw [h3]; rfl
    · exact h.elim

theorem tup_sound {xs : List AV} {vs : List Value} (h : VRL Sh W ρ xs vs) : VR Sh W ρ (tup xs) (if h : vs.toArray.size = 1 then vs.toArray[0] else .tuple vs.toArray) := by
  match xs, vs, h with
  | [], vs, h =>
    have := h.unnil
    subst this
    exact .tuple rfl fun i x v p q => by simp at p
  | [x], vs, h =>
    obtain ⟨v, ws, rfl, h1, h2⟩ := h.uncons
    have := h2.unnil
    subst this
    exact h1
  | x :: y :: l, vs, h =>
    have hl := h.1
    have : ¬ vs.toArray.size = 1 := by simp at hl ⊢; omega
    rw [dif_neg this]
    have h' : VRL Sh W ρ (x :: y :: l) vs.toArray.toList := by simpa using h
    exact .tuple h'.of_array.1 h'.of_array.2

theorem look_numbered : ∀ (l : List AV) (i t : Nat), look (numbered i l) t = if i ≤ t then l[t - i]? else none
  | [], i, t => by simp [numbered, look]
  | v :: l, i, t => by
    unfold numbered look
    by_cases h : i = t
    · subst h; simp
    · rw [if_neg h, look_numbered l (i + 1) t]
      by_cases h2 : i ≤ t
      · rw [if_pos h2, if_pos (by omega), show t - i = (t - (i + 1)) + 1 by omega]; rfl
      · rw [if_neg h2, if_neg (by omega)]

/-- A call, by the function's body. -/
theorem CallA.inline (hτ : ∀ t ti, τ t = some ti → TIok P t ti) (hmix : P.follows .mixedOrders = true) {f : Nat} {fn : Func} {c : Code} {args : List AV} {H : Heap} {n : Nat} {R : AV → Heap → Nat → Prop} (hf : P.funcs[f]? = some fn) (hb : fn.body = some c)
    (hn : (fn.name == "runtime.NumGoroutine") = false) {nt : Nat} (hnt : fn.ntmps = nt) {rs : List ResultVar} (hrs : fn.results = rs.toArray) (hargs : args.length ≤ nt)
    (h : T.prop P G n (resQ R) (bodyT τ G J c nt rs args H n)) : CallA P G f args H n R := by
  subst hnt
  constructor
  intro W0 S0 Sh ρ W vs hH hv
  refine .inr ⟨?_, ?_⟩
  · have h1 : fn.name ≠ "runtime.NumGoroutine" := by simpa using hn
    simp [callFunc, hf, h1, hb]
  · refine calls_of_wp hf hb ?_
    have hvl := hv.1
    have sim : Sim G W0 S0 Sh ρ ⟨fn.ntmps, numbered 0 args, H, n⟩ { tmps := vs.toArray ++ Array.replicate (fn.ntmps - vs.toArray.size) undef, defers := [] } W := by
      refine ⟨rfl, hH, ?_, fun t x q => ?_⟩
      · simp; omega
      · rw [look_numbered, if_pos (Nat.zero_le _), Nat.sub_zero] at q
        have hlt := (List.getElem?_eq_some_iff.1 q).1
        have hq : vs[t]? = some (vs[t]'(by omega)) := List.getElem?_eq_getElem _
        refine ⟨_, ?_, hv.2 t x _ q hq⟩
        rw [Array.getElem?_append, if_pos (by simp; omega)]
        simp
    refine run_sound hτ hmix c _ _ _ Sh ρ _ W sim h ?_
    intro ex e s' Sh' ρ' a' W' he hk hx hs
    have fin : T.prop P G n (resQ R) (resT τ s' rs fun vs => .done .ret ⟨1, [(0, tup vs)], s'.heap, s'.next⟩) → ∃ v, (results fn a'.tmps).run P W' = .ok v W' ∧
        ∃ x v_1 H' n' Sh' ρ', (Ending.returned v) = .returned v_1 ∧ R x H' n' ∧ Ext Sh ρ W Sh' ρ' W' ∧ HRel G W0 S0 Sh' ρ' H' n' W' ∧ VR Sh' W' ρ' x v_1 := by
      intro hk
      obtain ⟨xs, ws, h1, h2, h3⟩ := res_sound hτ hs rs _ hk
      refine ⟨_, ?_, tup xs, _, s'.heap, s'.next, Sh', ρ', rfl, h1, hx.all hH.fresh, hs.hr, tup_sound h2⟩
      have hm : (Array.mapM (resOp a'.tmps) rs.toArray).run P W' = .ok ws.toArray W' := by
        rw [Array.mapM_eq_mapM_toList]
        show (List.toArray <$> rs.mapM (resOp a'.tmps)).run P W' = _
        rw [← bind_pure_comp, Sem.run_bind, h3]; rfl
      unfold results
      rw [hrs]
      show ((Array.mapM (resOp a'.tmps) rs.toArray >>= fun vs => pure (if h : vs.size = 1 then vs[0] else .tuple vs) : Sem Value)).run P W' = _
      rw [Sem.run_bind, hm]; rfl
    cases ex with
    | normal => cases e <;> simp [exOf] at he; exact ⟨hs.defers, fin hk⟩
    | exit i => exact hk.elim
    | ret => cases e <;> simp [exOf] at he; exact ⟨hs.defers, fin hk⟩

theorem CallA.inlineE {P P' : Program} (e : P = P') (hτ : ∀ t ti, τ t = some ti → TIok P' t ti) (hmix : P'.follows .mixedOrders = true) {f : Nat} {fn : Func} {c : Code} {args : List AV} {H : Heap} {n : Nat} {R : AV → Heap → Nat → Prop} (hf : P'.funcs[f]? = some fn) (hb : fn.body = some c)
    (hn : (fn.name == "runtime.NumGoroutine") = false) {nt : Nat} (hnt : fn.ntmps = nt) {rs : List ResultVar} (hrs : fn.results = rs.toArray) (hargs : args.length ≤ nt)
    (h : T.prop P G n (resQ R) (bodyT τ G J c nt rs args H n)) : CallA P G f args H n R := by
  subst e
  exact CallA.inline hτ hmix hf hb hn hnt hrs hargs h
theorem FnA.inlineE {P P' : Program} (e : P = P') (hτ : ∀ t ti, τ t = some ti → TIok P' t ti) (hmix : P'.follows .mixedOrders = true) {f : Nat} {fn : Func} {c : Code} {args : List AV} {res : AV} (hf : P'.funcs[f]? = some fn) (hb : fn.body = some c)
    (hn : (fn.name == "runtime.NumGoroutine") = false) {nt : Nat} (hnt : fn.ntmps = nt) {rs : List ResultVar} (hrs : fn.results = rs.toArray) (hargs : args.length ≤ nt)
    (h : T.prop P G 0 (resQ fun x H _ => Frz H x res) (bodyT τ G J c nt rs args [] 0)) : FnA P G f args res :=
  FnA.of_call (CallA.inlineE e hτ hmix hf hb hn hnt hrs hargs h)

theorem look_mem {α : Type} : ∀ {l : List (Nat × α)} {t : Nat} {x : α}, look l t = some x → (t, x) ∈ l
  | [], t, x, h => by cases h
  | (k, v) :: l, t, x, h => by
    unfold look at h
    split at h
    · rename_i e; cases h; subst e; exact List.mem_cons_self ..
    · exact List.mem_cons_of_mem _ (look_mem h)

theorem TIok.of {t : Nat} {ti : TI} {i : TypeInfo} {z : Value} {d : TypeDesc} (h1 : P.info? t = some i) (h2 : P.underlying t = some d) (h3 : i.size = ti.size) (h4 : i.bytes = ti.bytes) (h5 : i.zero = some z) (h6 : kindOk ti.kind d)
    (h7 : ∀ ms, d = .interface ms → ti.kind = .iface) (h8 : z.cells.size = ti.size) (h9 : ofVs z.cells.toList = some ti.zero) (h10 : ti.eq ≠ [] → EqOk P t ti.eq) : TIok P t ti :=
  ⟨⟨i, z, d, h1, h2, h3, h4, h5, h6, h7, h8, fun Sh W ρ => (ofVs_sound h9).1, (ofVs_sound (Sh := fun _ => False) (W := default) (ρ := fun _ => none) h9).2⟩, h10⟩

theorem EqFs.cons' {n o : Nat} {f : Field} {fs : List Field} (l l' : List TK) {L : List TK} (hn : (f.name == "_") = false) (ho : f.offset = o) (h : EqTy P n f.type l) (k : EqFs P n (o + l.length) fs l') (hl : l ++ l' = L) : EqFs P n o (f :: fs) L :=
  hl ▸ .cons (by simpa using hn) ho h k
theorem tys_nil : ∀ p ∈ ([] : List (Nat × TI)), TIok P p.1 p.2 := fun p h => by cases h
theorem tys_cons {t : Nat} {ti : TI} {l : List (Nat × TI)} (h : TIok P t ti) (hl : ∀ p ∈ l, TIok P p.1 p.2) : ∀ p ∈ (t, ti) :: l, TIok P p.1 p.2 := fun p hp => by
  cases hp with
  | head => exact h
  | tail _ hp => exact hl p hp
theorem tys_ok {l : List (Nat × TI)} (h : ∀ p ∈ l, TIok P p.1 p.2) : ∀ t ti, look l t = some ti → TIok P t ti := fun t ti q => h _ (look_mem q)
end
end Go.Ax
