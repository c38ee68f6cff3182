/-
  The small abstract machine: code.
-/
import Derived.Test.YtcohbcdhcmajiaaDoorAx14
namespace Go.Ax
open Go.RowKit
set_option linter.unusedVariables false

section
variable {P : Program} {G : Nat → Option (List AV)} {B : Nat} {Q : Ex → St → Prop} {τ : Tys}
variable {W0 : World} {S0 Sh : Nat → Prop} {ρ : Rho} {W : World} {s : St} {a : Act}

theorem newT_sound (hτ : ∀ t ti, τ t = some ti → TIok P t ti) {o : Oper} {s : St} {K : AV → L → T} (h : (T.prop P G B Q (newT τ G o s K))) : ∃ x l, (T.prop P G B Q (K x l)) ∧ NewOk P G o s x l := by
  unfold newT at h
  split at h
  · rename_i t x ho
    split at h
    · rename_i v hv; exact box_new ho hv h
    · exact h.elim
  · rename_i t ho
    split at h
    · rename_i ti hti; exact alloc_new hτ ho hti h
    · exact h.elim
  · rename_i t len ps ho
    split at h
    · rename_i e ti l he hl
      split at h
      · exact h.elim
      · rename_i hsz; exact buildSlice_new hτ ho he hl hsz h
    · exact h.elim
  · rename_i t l c ho
    split at h
    · rename_i e ti k l k' c he hl hc
      exact makeSlice_new hτ ho he hl hc h
    · exact h.elim
  · rename_i src dst x ho
    split at h
    · rename_i b hx
      split at h
      · exact h.elim
      · rename_i hk
        have hk' : (isBytes τ dst && isK τ src TK.isAny) = true := by simpa using hk
        simp only [Bool.and_eq_true] at hk'
        exact bytes_new hτ ho hk'.1 hk'.2 hx h
    · exact h.elim
  · exact h.elim

/-- A block's cells are told anew. -/
theorem HRel.tell {H : Heap} {n : Nat} (h : HRel G W0 S0 Sh ρ H n W) {id : Nat} {l l' : L} {b : Nat} (hb : look H id = some (some ⟨l, false⟩)) (hr : ρ id = some b) {cs : Array Value} {e : TypeId} {fr : Nat × Nat}
    (h1 : W.heap[b]? = some (.cells cs e fr)) (h4 : l'.v.length ≤ cs.size)
    (h5 : ∀ (i : Nat) (x : AV) (v : Value), l'.v[i]? = some x → cs[i]? = some v → VR Sh W ρ x v) : HRel G W0 S0 Sh ρ (updH H id (some ⟨l', false⟩)) n W := by
  obtain ⟨cs0, e0, fr0, q1, q2, q3, q4, q5, q6, q7⟩ := h.blk id l false b hb hr
  have e1 : cs0 = cs := by rw [q2] at h1; cases h1; rfl
  subst e1
  exact (h.write hb hr (W' := W) ⟨rfl, rfl, rfl, rfl, fun _ _ => rfl⟩ q2 q2 rfl h4 h5 q5).2

theorem selfT_inv (hτ : ∀ t ti, τ t = some ti → TIok P t ti) {t et : Nat} (h : selfT τ t = some et) : ∃ ti, τ t = some ti ∧ ti.zero = [.nilptr, .nil] ∧ ti.size = 2 := by
  unfold selfT at h
  split at h
  · rename_i ti hti
    split at h
    · split at h
      · rename_i hz _ _ hd
        exact ⟨ti, hti, by assumption, by simpa using hd⟩
      · cases h
    · cases h
  · cases h

theorem self_sound (hτ : ∀ t ti, τ t = some ti → TIok P t ti) {o : Oper} {K next Q'} {t et : Nat} (hs : isSelf τ o = some (t, et)) (sim : Sim G W0 S0 Sh ρ s a W) (hd : dstOk o s = true)
    (h : (T.prop P G B Q (K ({ s with heap := (s.next + 1, some ⟨⟨true, []⟩, false⟩) :: (s.next, some ⟨⟨true, [.apt s.next t, .buf (s.next + 1) (.lit 0) et]⟩, false⟩) :: s.heap, next := s.next + 2 }.put o.dst (.ptr s.next (.lit 0)))))) (hK : Then P G B Q W0 S0 Sh ρ s.nt W K next) : o.wp P a W next Q' := by
  unfold isSelf at hs
  split at hs
  rotate_left
  · cases hs
  rename_i t0 ho
  cases hst : selfT τ t0 with
  | none => rw [hst] at hs; cases hs
  | some et0 =>
  rw [hst] at hs
  cases hs
  obtain ⟨ti, hti, hz0, hsz⟩ := selfT_inv hτ hst
  obtain ⟨i, z, d, h1, h2, h3, h4, h5, h6, h7, h8, h9, h10⟩ := (hτ t ti hti).ex
  have hz := h9 Sh W ρ
  rw [hz0] at hz
  have g : Grew W (W.alloc (.cells z.cells t (0, 0))) (.cells z.cells t (0, 0)) := Grew.alloc W _
  have hrun : (execOp a.eval o).run P W = .ok (.value (.pointer (some ⟨W.heap.size, 0, none⟩))) (W.alloc (.cells z.cells t (0, 0))) := by
    rw [execOp, ho]
    refine run_v ?_
    have hz' : (zeroValue t).run P W = .ok z W := by simp [zeroValue, typeInfo, h1, h5]
    simp only [Instr.alloc, Sem.run_bind, hz', Result.andThen_ok]
    rfl
  have h10' : ∀ (i : Nat) (v : Value), z.cells[i]? = some v → v.oneCell' = true := all_oneCell h10
  have hlen : z.cells.size = 2 := by have := hz.1; simpa using this
  obtain ⟨v0, w1, e1, hv0, hw1⟩ := hz.uncons
  obtain ⟨v1, w2, rfl, hv1, hw2⟩ := hw1.uncons
  have := hw2.unnil
  subst this
  have hc0 : z.cells[0]? = some v0 := by rw [← Array.getElem?_toList, e1]; rfl
  have hc1 : z.cells[1]? = some v1 := by rw [← Array.getElem?_toList, e1]; rfl
  cases hv0
  cases hv1
  obtain ⟨x1, x2⟩ := sim.hr.new (l := ⟨true, []⟩) g (Nat.zero_le _) (fun i x v p => by simp at p) h10' (fun o _ q => by omega)
  have x3 := x2.tell (id := s.next) (l' := ⟨true, [.apt s.next t, .buf (s.next + 1) (.lit 0) et]⟩) (by rw [look, if_pos rfl]) (add_self _ _ _) g.new (by rw [hlen]; simp) (fun i x v p q => by
    match i with
    | 0 =>
      rw [hc0] at q
      cases q
      cases p
      exact .apt (add_self _ _ _) g.new hlen (.inl rfl)
    | 1 =>
      rw [hc1] at q
      cases q
      cases p
      exact .buf (.acc0 rfl) (fun _ _ _ _ _ q => by cases q)
    | i + 2 => simp at p)
  have x4 := x3.unborn ⟨true, []⟩
  refine Oper.wp_value hrun (hK _ _ _ _ _ h x1 (Sim.put (s := { s with heap := (s.next + 1, some ⟨⟨true, []⟩, false⟩) :: (s.next, some ⟨⟨true, [.apt s.next t, .buf (s.next + 1) (.lit 0) et]⟩, false⟩) :: s.heap, next := s.next + 2 }) ⟨sim.defers, ?_, sim.tr.ext x1⟩ hd (.ptr (add_self _ _ _) rfl)) (nt_put _ _ _))
  have e : updH ((s.next, some ⟨⟨true, []⟩, false⟩) :: s.heap) s.next (some ⟨⟨true, [.apt s.next t, .buf (s.next + 1) (.lit 0) et]⟩, false⟩) = (s.next, some ⟨⟨true, [.apt s.next t, .buf (s.next + 1) (.lit 0) et]⟩, false⟩) :: s.heap := by
    rw [updH, if_pos rfl]
  rw [e] at x4
  exact x4

/-- One operation. -/
theorem op_sound (hτ : ∀ t ti, τ t = some ti → TIok P t ti) {o : Oper} {K next Q'} (sim : Sim G W0 S0 Sh ρ s a W) (hd : dstOk o s = true) (h : (T.prop P G B Q (opT τ G o s K))) (hK : Then P G B Q W0 S0 Sh ρ s.nt W K next) : o.wp P a W next Q' := by
  unfold opT at h
  split at h
  · -- it makes memory, or writes
    unfold effT at h
    split at h
    · rename_i t et hs
      exact self_sound hτ hs sim hd h hK
    split at h
    · obtain ⟨x, l, h, hn⟩ := newT_sound hτ h
      exact hn.sound sim hd h hK
    split at h
    · rename_i f args ts ho
      split at h
      · rename_i f first captured vs hf hv
        refine call_sound ho rfl sim hd hf hv h ?_
        intro x H' n' v Sh' ρ' W' hx he hh hv
        exact hK _ _ _ _ _ hx he (Sim.put (s := { s with heap := H', next := n' }) ⟨sim.defers, hh, sim.tr.ext he⟩ hd hv) (nt_put _ _ _)
      · exact h.elim
    · rename_i t x y ho
      split at h
      · exact h.elim
      rename_i hdst0
      have hdst : o.dst = none := by simpa using hdst0
      split at h
      · rename_i id off v ti hx hy hti
        obtain ⟨⟨l, sh⟩, hb, h⟩ := heapT_inv h
        dsimp only at h
        split at h
        · exact h.elim
        · rename_i hsh
          have hshf : sh = false := by simpa using hsh
          subst hshf
          exact store_sound hτ ho hdst sim hti hx hy hb h hK
      · exact h.elim
    · rename_i args ts ho
      split at h
      · rename_i x y t u hxy hts
        split at h
        · rename_i e ti he
          split at h
          · rename_i hk
            simp only [Bool.and_eq_true, bne_iff_ne, ne_eq] at hk
            exact append_sound hτ ho hts he hk.1.1 hk.1.2 hk.2 sim hd hxy h hK
          · exact h.elim
        · exact h.elim
      · exact h.elim
    · exact h.elim
  · -- it leaves the memory as it is
    obtain ⟨x, hx, hok⟩ := val_sound hτ h
    obtain ⟨v, h1, h2⟩ := hok Sh W ρ s.nt a sim.hr.glob sim.hr.lr sim.tr
    exact Oper.wp_value h1 (hK _ _ _ _ _ hx Ext.refl (sim.put hd h2) (nt_put _ _ _))

/-- What a piece of code comes to. -/
def Post (G : Nat → Option (List AV)) (B : Nat) (W0 : World) (S0 Sh : Nat → Prop) (ρ : Rho) (W : World) (Q : Ex → St → Prop) (e : Exit) (a' : Act) (W' : World) : Prop :=
  ∃ ex st' Sh' ρ', exOf e = some ex ∧ Q ex st' ∧ ExtB B Sh ρ W Sh' ρ' W' ∧ HRel G W0 S0 Sh' ρ' st'.heap st'.next W' ∧ TR Sh' W' ρ' st'.nt st'.tmps a'.tmps ∧ a'.defers = []

theorem Post.ext {Sh' ρ' W' e a' W''} (x : ExtB B Sh ρ W Sh' ρ' W') (h : Post G B W0 S0 Sh' ρ' W' Q e a' W'') : Post G B W0 S0 Sh ρ W Q e a' W'' := by
  obtain ⟨ex, st', Sh'', ρ'', h1, h2, h3, h4⟩ := h
  exact ⟨ex, st', Sh'', ρ'', h1, h2, x.trans h3, h4⟩

/-- Whether an operation is wanted. -/
theorem guard_sound {ops : Array Oper} {o : Oper} {b : Bool} (ht : TR Sh W ρ s.nt s.tmps a.tmps) (h : guardT ops.toList o s = some b) : Region.wanted o (yielded ops a.tmps) = b := by
  unfold guardT at h
  unfold Region.wanted
  cases hg : o.guard with
  | none => rw [hg] at h; simpa using h
  | some p =>
    obtain ⟨j, want⟩ := p
    rw [hg] at h
    dsimp only at h ⊢
    split at h
    · rename_i oj hj
      have hj' : ops[j]? = some oj := by simpa using hj
      split at h
      · rename_i d hd
        split at h
        · rename_i c hc
          obtain ⟨v, h1, h2⟩ := ht.2 d _ hc
          cases h2
          cases h
          have e : yielded ops a.tmps j = some c := by simp [yielded, hj', hd, h1]
          rw [e]
          cases c <;> cases want <;> rfl
        · rename_i hc
          obtain ⟨v, h1, h2⟩ := ht.2 d _ hc
          cases h2 with
          | tuple hl hv =>
            cases h
            have e : yielded ops a.tmps j = none := by simp [yielded, hj', hd, h1]
            rw [e]; rfl
        · cases h
      · cases h
    · cases h

theorem ops_sound (hτ : ∀ t ti, τ t = some ti → TIok P t ti) (ops : Array Oper) {K : St → T} {Q' : Exit → Act → World → Prop} : ∀ (l : List Oper) (i : Nat), ops.toList.drop i = l → ∀ (s : St) (Sh : Nat → Prop) (ρ : Rho) (a : Act) (W : World), Sim G W0 S0 Sh ρ s a W →
    (T.prop P G B Q (opsT τ G ops.toList l s K)) → (∀ s' Sh' ρ' a' W', (T.prop P G B Q (K s')) → Ext Sh ρ W Sh' ρ' W' → Sim G W0 S0 Sh' ρ' s' a' W' → Q' .normal a' W') → wpOps P ops Q' (List.range' i l.length) a W
  | [], i, hl, s, Sh, ρ, a, W, sim, h, hK => hK s Sh ρ a W h Ext.refl sim
  | o :: l, i, hl, s, Sh, ρ, a, W, sim, h, hK => by
    have hi : i < ops.toList.length := by
      rcases Nat.lt_or_ge i ops.toList.length with q | q
      · exact q
      · rw [List.drop_of_length_le q] at hl; cases hl
    have hoi : ops[i]? = some o := by
      have : (ops.toList.drop i)[0]? = some o := by rw [hl]; rfl
      simpa using this
    have hl' : ops.toList.drop (i + 1) = l := by rw [← List.drop_drop, hl]; rfl
    simp only [List.length_cons, List.range'_succ, wpOps, hoi]
    unfold opsT at h
    split at h
    · rename_i hd
      obtain ⟨s', hal, ⟨hg, h⟩ | ⟨hg, h⟩⟩ := ifGuard_inv h
      · rw [guard_sound sim.tr hg]
        simp only [if_true]
        have hd : dstOk o s' = true := by unfold dstOk at hd ⊢; rw [hal.nt]; exact hd
        refine .inl (op_sound hτ (sim.alike hal) hd h ?_)
        intro s' Sh' ρ' a' W' hs he hsim hnt
        exact ops_sound hτ ops l (i + 1) hl' s' Sh' ρ' a' W' hsim hs fun s2 Sh2 ρ2 a2 W2 q1 q2 q3 => hK s2 Sh2 ρ2 a2 W2 q1 (he.trans q2) q3
      · rw [guard_sound sim.tr hg]
        simp only [Bool.false_eq_true, if_false]
        have hd : dstOk o s' = true := by unfold dstOk at hd ⊢; rw [hal.nt]; exact hd
        exact ops_sound hτ ops l (i + 1) hl' _ Sh ρ _ W ((sim.alike hal).put hd (.tuple (vs := #[]) rfl fun i x v p q => by simp at p)) h hK
    · exact h.elim

end
end Go.Ax
