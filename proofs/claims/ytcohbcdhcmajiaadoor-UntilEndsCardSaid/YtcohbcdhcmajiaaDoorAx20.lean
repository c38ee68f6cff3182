/-
  The small abstract machine: operations whose order is drawn: any order.
-/
import Derived.Test.YtcohbcdhcmajiaaDoorAx18
namespace Go.Ax
open Go.RowKit
set_option linter.unusedVariables false

section
variable {P : Program} {G : Nat → Option (List AV)} {B : Nat} {Q : Ex → St → Prop} {τ : Tys}
variable {W0 : World} {S0 Sh : Nat → Prop} {ρ : Rho} {W : World} {s : St} {a : Act} {all : List Oper}

/-- A new block that has a number already. -/
theorem HRel.fill {H : Heap} {n : Nat} (h : HRel G W0 S0 Sh ρ H n W) {id : Nat} {l : L} {W' : World} {cs : Array Value} {e : TypeId} {fr : Nat × Nat} (hid : look H id = some (some ⟨l, false⟩)) (hn : ρ id = none) (hlt : id < n) (g : Grew W W' (.cells cs e fr))
    (hl : l.v.length ≤ cs.size) (hv : ∀ (i : Nat) (x : AV) (v : Value), l.v[i]? = some x → cs[i]? = some v → VR Sh W ρ x v) (h1 : ∀ (i : Nat) (v : Value), cs[i]? = some v → v.oneCell' = true)
    (hf : ∀ o, o < cs.size → ¬ (fr.1 ≤ o ∧ o < fr.2)) : Ext Sh ρ W Sh (ρ.add id W.heap.size) W' ∧ HRel G W0 S0 Sh (ρ.add id W.heap.size) H n W' := by
  obtain ⟨e1, h'⟩ := h.grew g
  have ext2 : Ext Sh ρ W' Sh (ρ.add id W.heap.size) W' := ⟨fun _ h => h, fun id' b' q => by
    unfold Rho.add
    rw [if_neg (fun e => by rw [e, hn] at q; cases q)]; exact q, fun _ _ => rfl, fun b cs e fr q => ⟨cs, fr, q, rfl⟩⟩
  have hu : ∀ id' x, look H id' = some (some x) → ρ id' ≠ some W.heap.size := by
    intro id' x q r
    obtain ⟨lx, shx⟩ := x
    obtain ⟨c2, e2, f2, p1, p2, _⟩ := h.blk id' lx shx _ q r
    exact Nat.lt_irrefl _ (Array.getElem?_eq_some_iff.1 p2).1
  refine ⟨e1.trans ext2, ⟨h'.below, ?_, ?_, ?_, h'.slt, h'.grow, h'.glob, h'.dom⟩⟩
  · intro id2 l2 sh2 b2 hl2 hr2
    by_cases hq : id2 = id
    · subst hq
      rw [hid] at hl2
      cases hl2
      simp only [Rho.add, if_true, Option.some.injEq] at hr2
      subst hr2
      exact ⟨cs, e, fr, h.below.size, g.new, hl, fun i x v p q => (hv i x v p q).ext (e1.trans ext2), h1, fun q => by (cases q), fun _ => ⟨fun q => Nat.lt_irrefl _ (h.slt _ q), hf⟩⟩
    · simp only [Rho.add, if_neg hq] at hr2
      obtain ⟨c2, e2, f2, p1, p2, p3, p4, p5, p6, p7⟩ := h'.blk id2 l2 sh2 b2 hl2 hr2
      exact ⟨c2, e2, f2, p1, p2, p3, fun i x v p q => (p4 i x v p q).ext ext2, p5, p6, p7⟩
  · intro i1 i2 l1 x1 b1 k1 k2 k3 k4
    by_cases q1 : i1 = id <;> by_cases q2 : i2 = id
    · rw [q1, q2]
    · simp only [Rho.add, if_pos q1, Option.some.injEq] at k3
      simp only [Rho.add, if_neg q2] at k4
      subst k3
      exact absurd k4 (hu i2 x1 k2)
    · simp only [Rho.add, if_neg q1] at k3
      simp only [Rho.add, if_pos q2, Option.some.injEq] at k4
      subst k4
      exact absurd k3 (hu i1 _ k1)
    · simp only [Rho.add, if_neg q1] at k3
      simp only [Rho.add, if_neg q2] at k4
      exact h'.inj i1 i2 l1 x1 b1 k1 k2 k3 k4
  · intro id' hid'
    simp only [Rho.add, if_neg (show ¬ id' = id by omega)]
    exact h'.fresh id' hid'

/-- The blocks of a later state, none of the new ones there yet. -/
theorem HRel.ahead {H H' : Heap} {n n' : Nat} (h : HRel G W0 S0 Sh ρ H n W) (hn : n ≤ n') (hk : ∀ id, id < n → look H' id = look H id) (hd : ∀ id x, look H' id = some x → id < n') : HRel G W0 S0 Sh ρ H' n' W := by
  have old : ∀ {id b}, ρ id = some b → id < n := fun {id b} q => by
    rcases Nat.lt_or_ge id n with h1 | h1
    · exact h1
    · rw [h.fresh id h1] at q; cases q
  refine ⟨h.below, fun id l sh b q r => h.blk id l sh b (by rw [← hk id (old r)]; exact q) r, fun id id' l x b q q' r r' => h.inj id id' l x b (by rw [← hk id (old r)]; exact q) (by rw [← hk id' (old r')]; exact q') r r',
    fun id hid => h.fresh id (by omega), h.slt, h.grow, h.glob, hd⟩

/-- One operation, at its time. -/
theorem dag_step {o : Oper} {r : Rec} {H : Heap} {n : Nat} (hok : RecOk P G all o r) (hr : HRel G W0 S0 Sh ρ H n W) (hle : r.st.next ≤ n) (hh : ∀ id, id < r.st.next → look H id = look r.st.heap id) (hdom : ∀ id x, look r.st.heap id = some x → id < r.st.next)
    (hnew : ∀ c, r.nw = some c → r.st.next < n ∧ look H r.st.next = some (some ⟨c, false⟩) ∧ ρ r.st.next = none) (hsz : a.tmps.size = r.st.nt)
    (ht : ∀ t x, (looksT all o).contains t = true → look r.st.tmps t = some x → ∃ v, a.tmps[t]? = some v ∧ VR Sh W ρ x v) {i : Nat} {ops : Array Oper} (hops : ops.toList = all) (hi : ops[i]? = some o) {next : Act → World → Prop} {Q' : Exit → Act → World → Prop}
    (hK : ∀ v W' Sh' ρ', Ext Sh ρ W Sh' ρ' W' → HRel G W0 S0 Sh' ρ' H n W' → VR Sh' W' ρ' r.x v → (∀ id, ρ' id = ρ id ∨ (r.nw ≠ none ∧ id = r.st.next)) → next (a.put o.dst v) W') : wpOp P ops Q' i next a W := by
  obtain ⟨hd, hok⟩ := hok
  -- what is looked at
  have tr : TR Sh W ρ r.st.nt (narrow all o r.st).tmps a.tmps := ⟨hsz, fun t x q => by
    show ∃ v, _
    have q' : look (keepT (looksT all o) r.st.tmps) t = some x := q
    rw [look_keep] at q'
    split at q'
    · rename_i hc; exact ht t x hc q'
    · cases q'⟩
  have lr : LR Sh W ρ (narrow all o r.st).heap := fun id l sh b q rr => by
    have q1 : look r.st.heap id = some (some ⟨l, sh⟩) := q
    exact hr.lr id l sh b (by rw [hh id (hdom id _ q1)]; exact q1) rr
  have hg : guardT all o (narrow all o r.st) = guardT all o r.st := by
    unfold guardT
    cases hgd : o.guard with
    | none => rfl
    | some p =>
      obtain ⟨j, want⟩ := p
      dsimp only
      cases hj : all[j]? with
      | none => rfl
      | some oj =>
        dsimp only
        cases hdj : oj.dst with
        | none => rfl
        | some d =>
          dsimp only
          have : look (narrow all o r.st).tmps d = look r.st.tmps d := by
            show look (keepT _ _) d = _
            rw [look_keep, if_pos]
            simp [looksT, hgd, hj, hdj]
          rw [this]
  have hw : ∀ b, guardT all o r.st = some b → Region.wanted o (yielded ops a.tmps) = b := fun b q => by
    refine guard_sound (ops := ops) (s := narrow all o r.st) tr ?_
    rw [hops, hg]; exact q
  unfold wpOp
  rw [hi]
  dsimp only
  rcases hok with ⟨h1, h2, h3⟩ | ⟨h1, h2⟩
  · rw [hw _ h1]
    simp only [Bool.false_eq_true, if_false]
    exact hK undef W Sh ρ Ext.refl hr (by rw [h2]; exact .tuple (vs := #[]) rfl fun i x v p q => by simp at p) fun id => .inl rfl
  · rw [hw _ h1]
    simp only [if_true]
    refine .inl ?_
    cases hnw : r.nw with
    | some c =>
      rw [hnw] at h2
      obtain ⟨v, W', cs, e, fr, r1, g, r2, r3, r4, r5, r6⟩ := h2 Sh W ρ _ a hr.glob tr
      obtain ⟨n1, n2, n3⟩ := hnew c hnw
      obtain ⟨e1, e2⟩ := hr.fill n2 n3 n1 g r2 r3 r4 r5
      refine Oper.wp_value r1 (hK v W' Sh _ e1 e2 (r6 _ (add_self _ _ _)) fun id => ?_)
      by_cases hq : id = r.st.next
      · exact .inr ⟨by rw [hnw]; exact fun h => (by cases h), hq⟩
      · exact .inl (by simp [Rho.add, hq])
    | none =>
      rw [hnw] at h2
      rcases h2 with h2 | h2
      · obtain ⟨v, r1, r2⟩ := h2 Sh W ρ _ a hr.glob lr tr
        exact Oper.wp_value r1 (hK v W Sh ρ Ext.refl hr r2 fun id => .inl rfl)
      · obtain ⟨c, fo, f, first, captured, vs, fargs, ho, hc, hf, hv, hfz, hfn, hfl⟩ := h2.out
        have h1 := ev_sound hr.glob tr hf
        have h2 := evs_sound hr.glob tr hv
        obtain ⟨fs, cs, hfv, hl1, hv1, hl2, hv2⟩ : ∃ fs cs : Array Value, a.eval fo = .func (.func f) fs cs ∧ fs.size = first.length ∧ (∀ (i : Nat) (x : AV) (v : Value), first[i]? = some x → fs[i]? = some v → VR Sh W ρ x v) ∧
            cs.size = captured.length ∧ ∀ (i : Nat) (x : AV) (v : Value), captured[i]? = some x → cs[i]? = some v → VR Sh W ρ x v := by
          cases hq : a.eval fo <;> rw [hq] at h1 <;> cases h1
          exact ⟨_, _, rfl, by assumption, by assumption, by assumption, by assumption⟩
        have hall : VRL Sh W ρ (first ++ vs ++ captured) (fs ++ c.args.map a.eval ++ cs).toList := by
          simp only [Array.toList_append, Array.toList_map]
          exact ((VRL.to_array hl1 hv1).append h2).append (VRL.to_array hl2 hv2)
        have hfz' : FrzL H (first ++ vs ++ captured) fargs := by
          refine ⟨hfz.1, fun i x y p q => ?_⟩
          have key : ∀ {x y : AV}, Frz r.st.heap x y → Frz H x y := by
            intro x y h
            induction h with
            | closed h => exact .closed h
            | own h hf hn hl hc ih => exact .own ((hh _ (hdom _ _ h)).trans h) hf hn hl ih
            | acc h hs hn hz ih => exact .acc ih hs hn hz
            | ptr h hl ho hc ih => exact .ptr ((hh _ (hdom _ _ h)).trans h) hl ho ih
            | agg hl hv ih => exact .agg hl ih
            | tuple hl hv ih => exact .tuple hl ih
            | func hl hv hl' hv' ih ih' => exact .func hl ih hl' ih'
            | iface h ih => exact .iface ih
            | seq h hs ih => exact .seq ih hs
            | lit h => exact .lit h
            | slit h => exact .slit h
          exact key (hfz.2 i x y p q)
        have hcall := hfn.use hfz' hfl hr hall
        have hrun : (execOp a.eval o).run P W = (callFunc f (fs ++ c.args.map a.eval ++ cs).toList.toArray).run P W := by
          rw [execOp, ho]
          show (do let d ← resolve a.eval c o.type; invoke d.target d.args : Sem Next).run P W = _
          rw [Sem.run_bind]
          have : (resolve a.eval c o.type).run P W = .ok { target := .fn (.func f) cs, args := fs ++ c.args.map a.eval } W := by
            simp [resolve, hc, hfv, Deferred.ofValue]
          rw [this, Array.toArray_toList]
          rfl
        unfold Go.Oper.wp
        rw [hrun]
        rcases hcall with ⟨v, W', r1, v', Sh', e, q1, q2, q3⟩ | ⟨r1, r2⟩
        · cases e
          rw [r1]
          exact hK _ _ _ _ q1 q2 q3 fun id => .inl rfl
        · rw [r1]
          show Calls P f _ W _
          refine r2.mono ?_
          rintro e W' ⟨v, Sh', rfl, q1, q2, q3⟩
          exact hK _ _ _ _ q1 q2 q3 fun id => .inl rfl
end
end Go.Ax
