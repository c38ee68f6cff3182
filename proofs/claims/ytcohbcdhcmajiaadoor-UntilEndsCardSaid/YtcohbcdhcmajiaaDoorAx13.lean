/-
  The small abstract machine: operations that make memory, and that write: slices, stores, calls.
-/
import Derived.Test.YtcohbcdhcmajiaaDoorAx12
import Derived.IntWalk
namespace Go.Ax
open Go.RowKit
set_option linter.unusedVariables false

section
variable {P : Program} {G : Nat → Option (List AV)} {B : Nat} {Q : Ex → St → Prop} {τ : Tys}
variable {W0 : World} {S0 Sh : Nat → Prop} {ρ : Rho} {W : World} {s : St} {a : Act}

theorem wrap64 (k : Nat) (h : k ≤ 9223372036854775807) : IntKind.i64.wrap (k : Int) = k := IntWalk.i64_in _ (by omega)

theorem makeSlice_new (hτ : ∀ t ti, τ t = some ti → TIok P t ti) {o : Oper} {t : TypeId} {lo co : Operand} {K : AV → L → T} (ho : o.op = .makeSlice t lo co)
    {e : TypeId} {ti : TI} (he : elemOf τ t = some (e, ti)) {k k' : IntKind} {l c : I} (hl : s.ev G lo = some (.int k l)) (hc : s.ev G co = some (.int k' c))
    (h : (T.prop P G B Q (leI c (.lit 9223372036854775807) fun _ => natI c fun c => leI l c fun _ => natI l fun l => roomN c ti.bytes fun _ => repL c ti.zero fun cells => K (.own s.next (.lit 0) l (some c) ti.size) cells))) : ∃ x l, (T.prop P G B Q (K x l)) ∧ NewOk P G o s x l := by
  obtain ⟨hu, hte⟩ := elemOf_inv hτ he
  obtain ⟨⟨c1, c2⟩, h⟩ := leI_inv h
  obtain ⟨cn, hcn, h⟩ := natI_inv h
  obtain ⟨⟨l1, l2⟩, h⟩ := leI_inv h
  obtain ⟨ln, hln, h⟩ := natI_inv h
  obtain ⟨hroom, h⟩ := roomN_inv h
  obtain ⟨r, hr, h⟩ := repL_inv h
  obtain ⟨i, z, d, h1, h2, h3, h4, h5, h6, h7, h8, h9, h10⟩ := (hτ e ti hte).ex
  refine ⟨_, _, h, fun Sh W ρ nt a hG ht => ?_⟩
  obtain ⟨cs, zc, za, zb, z1, z2, z3, z4⟩ := zeros_sound hτ hte cn.v W
  have c2' : c.v ≤ 9223372036854775807 := by simpa [N.v] using c2
  have ec : c.v = (cn.v : Int) := by rw [hcn]; omega
  have el : l.v = (ln.v : Int) := by rw [hln]; omega
  have g := Grew.alloc W (.cells cs e (0, 0))
  have hv := z3 Sh W ρ
  rw [← hr] at hv
  refine ⟨.slice (some ⟨W.heap.size, 0, none⟩) ln.v cn.v, W.alloc (.cells cs e (0, 0)), _, _, _, ?_, g, by rw [← hv.1]; simp, hv.of_array.2, all_oneCell z4, fun o _ q => by omega,
    fun ρ' hr => own_new g rfl (by omega) (fun c' e => by cases e; rfl) (by omega) hr⟩
  rw [execOp, ho]
  refine run_v ?_
  rw [(ev_sound hG ht hl).int_inv, (ev_sound hG ht hc).int_inv, ec, el]
  have w1 := wrap64 ln.v (by omega)
  have w2 := wrap64 cn.v (by omega)
  have hb : ¬ ((2 : Int) ^ 48 < (i.bytes : Int) * (cn.v : Int)) := by
    have : cn.v * i.bytes ≤ 140737488355328 := by rw [h4]; exact hroom
    have e : (i.bytes : Int) * (cn.v : Int) = ((cn.v * i.bytes : Nat) : Int) := by rw [Int.natCast_mul, Int.mul_comm]
    rw [e]
    show ¬ ((281474976710656 : Int) < _)
    omega
  have hrm : ¬ (cn.v * i.bytes > roomBytes) := by
    rw [h4]
    show ¬ (cn.v * ti.bytes > 140737488355328)
    omega
  have hti : (typeInfo e).run P W = .ok i W := by simp [typeInfo, h1]
  have hlc : ¬ ((cn.v : Int) < (ln.v : Int)) := by omega
  have hn0 : ¬ ((ln.v : Int) < 0) := by omega
  have hn1 : ¬ ((cn.v : Int) < 0) := by omega
  by_cases h0 : cn.v * ti.size = 0
  · have e0 := za h0
    subst e0
    simp only [Instr.makeSlice, Sem.run_bind, run_underlying hu, Result.andThen_ok, asInt, asIntOf, Sem.run_pure, hti, w1, w2, gt_iff_lt, hb, hlc, hn0, hn1, decide_false, Bool.or_false, Bool.false_or, Bool.false_eq_true, if_false,
      askRoom, hrm, Int.toNat_natCast, run_size (hτ _ _ hte), if_pos h0, z1]
    simp [newRow, newObj, Sem.run]
  · obtain ⟨z, hz, e0⟩ := zb h0
    subst e0
    simp only [Instr.makeSlice, Sem.run_bind, run_underlying hu, Result.andThen_ok, asInt, asIntOf, Sem.run_pure, hti, w1, w2, gt_iff_lt, hb, hlc, hn0, hn1, decide_false, Bool.or_false, Bool.false_or, Bool.false_eq_true, if_false,
      askRoom, hrm, Int.toNat_natCast, run_size (hτ _ _ hte), if_neg h0, hz, z1]
    simp [newRow, newObj, Sem.run]

theorem store_sound (hτ : ∀ t ti, τ t = some ti → TIok P t ti) {o : Oper} {t : TypeId} {x y : Operand} {K next Q'} (ho : o.op = .store t x y) (hdst : o.dst = none) (sim : Sim G W0 S0 Sh ρ s a W)
    {ti : TI} (hti : τ t = some ti) {id : Nat} {off : N} {v : AV} (hx : s.ev G x = some (.ptr id off)) (hy : s.ev G y = some v) {l : L} (hb : look s.heap id = some (some ⟨l, false⟩))
    (h : (T.prop P G B Q (cellsT v fun m => writeL l off (.lit ti.size) m fun w => .evH (updH s.heap id (some ⟨w, false⟩)) fun h => K { s with heap := h })))
    (hK : Then P G B Q W0 S0 Sh ρ s.nt W K next) : o.wp P a W next Q' := by
  obtain ⟨m, h, hm⟩ := cellsT_inv h
  obtain ⟨hfit, hlen, r, hr, h⟩ := writeL_inv h
  have h : (T.prop P G B Q (K { s with heap := updH s.heap id (some ⟨r, false⟩) })) := h
  obtain ⟨b, hρ, hxv⟩ := (ev_sound sim.hr.glob sim.tr hx).ptr_inv
  obtain ⟨m1, m2⟩ := hm Sh W ρ _ (ev_sound sim.hr.glob sim.tr hy)
  obtain ⟨cs, e, fr, q1, q2, q3, q4, q5, q6, q7⟩ := sim.hr.blk id l false b hb hρ
  obtain ⟨q7, q8⟩ := q7 rfl
  have e1 : (a.eval y).cells.size = ti.size := by rw [← Array.length_toList, m1.1]; exact hlen
  have hfit' : off.v + ti.size ≤ l.v.length := hfit
  obtain ⟨W', cs', r1, r2, r3, r4⟩ := run_storeBlk (P := P) b off.v e fr (a.eval y).cells.toList 0 W cs q2 (by simp [e1]; omega) q8 m2
  have hsz : cs'.size = cs.size := by rw [← Array.length_toList, r4, length_write (by simp [e1]; omega)]; simp
  have hl0 : VRL Sh W ρ l.v (cs.toList.take l.v.length) := ⟨by simp; omega, fun i x v p q => by
    rw [List.getElem?_take] at q
    split at q
    · exact q4 i x v p (by simpa using q)
    · cases q⟩
  obtain ⟨x1, x2⟩ := sim.hr.write (l' := r) hb hρ r2 q2 r3 hsz (by rw [hr, length_write (by omega)]; omega) (fun i x v p q => by
      have hw := hl0.write m1 off.v
      rw [hr] at p
      refine hw.2 i x v p ?_
      have hi := (List.getElem?_eq_some_iff.1 p).1
      rw [length_write (by omega)] at hi
      have q' : (Ax.write cs.toList (off.v + 0) (a.eval y).cells.toList)[i]? = some v := by rw [← r4]; simpa using q
      rw [Nat.add_zero] at q'
      rw [← q']
      have e2 : (a.eval y).cells.toList.length = ti.size := by simpa using e1
      have hcl : l.v.length ≤ cs.toList.length := by simpa using q3
      rw [getElem?_write (by rw [e2, List.length_take]; omega), getElem?_write (by rw [e2]; omega), List.getElem?_take, if_pos hi]) (fun i v q => by
      have q' : v ∈ cs'.toList := List.mem_of_getElem? (i := i) (by simpa using q)
      rw [r4] at q'
      rcases mem_write q' with q' | q'
      · obtain ⟨j, hj⟩ := List.mem_iff_getElem?.1 q'
        exact q5 j v (by simpa using hj)
      · exact m2 v q')
  refine Oper.wp_skip (W' := W') ?_ (hK _ _ _ _ _ h x1 ⟨?_, x2, ?_⟩ rfl)
  · rw [execOp, ho]
    show (do Instr.storeAt t (a.eval x) (a.eval y); pure Next.skip : Sem Next).run P W = _
    rw [Sem.run_bind, hxv]
    have : (Instr.storeAt t (.pointer (some ⟨b, off.v, none⟩)) (a.eval y)).run P W = .ok () W' := by
      simp only [Instr.storeAt, Instr.sureAddr, storeVar, Sem.run_bind, Sem.run_pure, Result.andThen_ok, run_size (hτ _ _ hti), e1, ne_eq, not_true_eq_false, if_false]
      exact r1
    rw [this]; rfl
  · rw [hdst]; exact sim.defers
  · rw [hdst]; exact sim.tr.ext x1

/-- A call. -/
theorem call_sound {o : Oper} {c : Call} {fo : Operand} {K : AV → Heap → Nat → T} {next Q'} (ho : o.op = .call c) (hc : c.callee = .value fo) (sim : Sim G W0 S0 Sh ρ s a W) (hd : dstOk o s = true)
    {f : Nat} {first captured vs : List AV} (hf : s.ev G fo = some (.func f first captured)) (hv : s.evs G c.args.toList = some vs)
    (h : CallA P G f (first ++ vs ++ captured) s.heap s.next fun v hh n => (T.prop P G B Q (K v hh n)))
    (hK : ∀ x H' n' v Sh' ρ' W', (T.prop P G B Q (K x H' n')) → Ext Sh ρ W Sh' ρ' W' → HRel G W0 S0 Sh' ρ' H' n' W' → VR Sh' W' ρ' x v → next (a.put o.dst v) W') : o.wp P a W next Q' := by
  have h1 := ev_sound sim.hr.glob sim.tr hf
  have h2 := evs_sound sim.hr.glob sim.tr hv
  obtain ⟨fs, cs, hfv, hl1, hv1, hl2, hv2⟩ : ∃ fs cs : Array Value, a.eval fo = .func (.func f) fs cs ∧ fs.size = first.length ∧ (∀ (i : Nat) (x : AV) (v : Value), first[i]? = some x → fs[i]? = some v → VR Sh W ρ x v) ∧
      cs.size = captured.length ∧ ∀ (i : Nat) (x : AV) (v : Value), captured[i]? = some x → cs[i]? = some v → VR Sh W ρ x v := by
    cases hq : a.eval fo <;> rw [hq] at h1 <;> cases h1
    exact ⟨_, _, rfl, by assumption, by assumption, by assumption, by assumption⟩
  have hall : VRL Sh W ρ (first ++ vs ++ captured) (fs ++ c.args.map a.eval ++ cs).toList := by
    simp only [Array.toList_append, Array.toList_map]
    exact ((VRL.to_array hl1 hv1).append h2).append (VRL.to_array hl2 hv2)
  have hcall := h.out W0 S0 Sh ρ W _ sim.hr hall
  have hrun : (execOp a.eval o).run P W = (callFunc f (fs ++ c.args.map a.eval ++ cs).toList.toArray).run P W := by
    rw [execOp, ho]
    show (do let d ← resolve a.eval c o.type; invoke d.target d.args : Sem Next).run P W = _
    rw [Sem.run_bind]
    have : (resolve a.eval c o.type).run P W = .ok { target := .fn (.func f) cs, args := fs ++ c.args.map a.eval } W := by
      simp [resolve, hc, hfv, Deferred.ofValue]
    rw [this, Array.toArray_toList]
    rfl
  unfold Go.Oper.wp
  rw [hrun]
  rcases hcall with ⟨v, W', r1, x, v', H', n', Sh', ρ', e, q1, q2, q3, q4⟩ | ⟨r1, r2⟩
  · cases e
    rw [r1]
    exact hK _ _ _ _ _ _ _ q1 q2 q3 q4
  · rw [r1]
    show Calls P f _ W _
    refine r2.mono ?_
    rintro e W' ⟨x, v, H', n', Sh', ρ', rfl, q1, q2, q3, q4⟩
    exact hK _ _ _ _ _ _ _ q1 q2 q3 q4
end
end Go.Ax
