/-
  The small abstract machine: operations whose order is drawn: whole.
-/
import Derived.Test.YtcohbcdhcmajiaaDoorAx20
namespace Go.Ax
open Go.RowKit
set_option linter.unusedVariables false

section
variable {P : Program} {G : Nat → Option (List AV)} {B : Nat} {Q : Ex → St → Prop} {τ : Tys}
variable {W0 : World} {S0 Sh : Nat → Prop} {ρ : Rho} {W : World} {s : St} {a : Act} {all : List Oper}

theorem getD_t {l : Array Bool} {i : Nat} : l.getD i true = false ↔ l[i]? = some false := by
  rw [Array.getD_eq_getD_getElem?]
  cases h : l[i]? with
  | none => simp
  | some b => cases b <;> simp
theorem getD_f {l : Array Bool} {i : Nat} : l.getD i false = true ↔ l[i]? = some true := by
  rw [Array.getD_eq_getD_getElem?]
  cases h : l[i]? with
  | none => simp
  | some b => cases b <;> simp
theorem set_get {l : Array Bool} {i j : Nat} (hi : i < l.size) : (l.setIfInBounds i true)[j]? = if i = j then some true else l[j]? := by
  rw [Array.getElem?_setIfInBounds]
  by_cases h : i = j
  · subst h; simp [hi]
  · simp [h]

def R (all : List Oper) (i : Nat) : List Nat := (reaches all []).getD i []

theorem ready_iff {ops : Array Oper} (hops : ops.toList = all) {listed : Array Bool} {i : Nat} : i ∈ Region.ready .any ops listed ↔ listed[i]? = some false ∧ ∃ o, all[i]? = some o ∧ ∀ e ∈ o.after, bindsT e = true → listed[e.on]? = some true := by
  rw [mem_ready, getD_t]
  have : ∀ i : Nat, ops[i]? = all[i]? := fun i => by rw [← hops]; simp
  simp only [this, binds_eq, getD_f]

/-- What waits for what is listed. -/
theorem ready_reach {listed : Array Bool} {i : Nat} {o : Oper} (ho : all[i]? = some o) (he : ∀ e ∈ o.after, bindsT e = true → listed[e.on]? = some true)
    (down : ∀ (k : Nat) (o : Oper), all[k]? = some o → listed[k]? = some true → ∀ j ∈ R all k, listed[j]? = some true) (hb : backB 0 all = true) : ∀ j ∈ R all i, listed[j]? = some true := by
  intro j hj
  obtain ⟨e, h1, h2, h3⟩ := reach_mem ho hj
  rcases h3 with rfl | ⟨h4, h5⟩
  · exact he e h1 h2
  · have hl : e.on < all.length := by have := (List.getElem?_eq_some_iff.1 ho).1; omega
    exact down e.on _ (List.getElem?_eq_getElem hl) (he e h1 h2) j h5

structure DInv (P : Program) (G : Nat → Option (List AV)) (all : List Oper) (m : Nat) (s0 : St) (rs : List Rec) (sf : St) (W0 : World) (S0 : Nat → Prop) (listed : Array Bool) (Sh : Nat → Prop) (ρ : Rho) (a : Act) (W : World) : Prop where
  lsize : listed.size = all.length
  later : ∀ i, m ≤ i → i < all.length → listed[i]? = some false
  down : ∀ (k : Nat) (o : Oper), all[k]? = some o → listed[k]? = some true → ∀ j ∈ R all k, listed[j]? = some true
  hr : HRel G W0 S0 Sh ρ sf.heap sf.next W
  rho : ∀ (i : Nat) (r : Rec), rs[i]? = some r → listed[i]? = some false → r.nw ≠ none → ρ r.st.next = none
  defers : a.defers = []
  asz : a.tmps.size = sf.nt
  tr1 : ∀ t x, (∀ (j : Nat) (o : Oper), all[j]? = some o → j < m → o.dst = some t → listed[j]? = some true) → look sf.tmps t = some x → ∃ v, a.tmps[t]? = some v ∧ VR Sh W ρ x v
  tr2 : ∀ t x, (∀ (j : Nat) (o : Oper), all[j]? = some o → j < m → o.dst = some t → listed[j]? = some false) → look s0.tmps t = some x → ∃ v, a.tmps[t]? = some v ∧ VR Sh W ρ x v

theorem take_at {m i : Nat} {o : Oper} (hi : i < m) (h : all[i]? = some o) : (all.take m)[i]? = some o := by
  rw [List.getElem?_take, if_pos hi]; exact h
theorem at_take {m i : Nat} {o : Oper} (h : (all.take m)[i]? = some o) : i < m ∧ all[i]? = some o := by
  rw [List.getElem?_take] at h
  split at h
  · rename_i hi; exact ⟨hi, h⟩
  · cases h

theorem bool_or3 {a b c d : Bool} (h : (!a || b || c || d) = true) (ha : a = true) : b = true ∨ c = true ∨ d = true := by
  subst ha; cases b <;> cases c <;> cases d <;> simp_all

theorem dag_next {m : Nat} {s0 sf : St} {rs : List Rec} {listed : Array Bool} {ops : Array Oper} (hops : ops.toList = all) (hb : backB 0 all = true) (hp : pairsB all (reaches all []) (all.take m) = true)
    (tr : Tr P G all (all.take m) s0 rs sf) (h0 : ∀ id x, look s0.heap id = some x → id < s0.next) (inv : DInv P G all m s0 rs sf W0 S0 listed Sh ρ a W) {i : Nat} (him : i < m) (hrd : i ∈ Region.ready .any ops listed) {next : Act → World → Prop} {Q' : Exit → Act → World → Prop}
    (hK : ∀ a' W' Sh' ρ', Ext Sh ρ W Sh' ρ' W' → DInv P G all m s0 rs sf W0 S0 (listed.setIfInBounds i true) Sh' ρ' a' W' → next a' W') : wpOp P ops Q' i next a W := by
  obtain ⟨hun, o, ho, hedge⟩ := (ready_iff hops).1 hrd
  have hlen : i < all.length := (List.getElem?_eq_some_iff.1 ho).1
  have hil : i < listed.size := by rw [inv.lsize]; exact hlen
  have hoT := take_at him ho
  have hrl : i < rs.length := by rw [tr.len]; exact (List.getElem?_eq_some_iff.1 hoT).1
  obtain ⟨r, hr⟩ : ∃ r, rs[i]? = some r := ⟨_, List.getElem?_eq_getElem hrl⟩
  have hreach := ready_reach ho hedge inv.down hb
  -- one writer for each slot
  have uniq : ∀ {j k : Nat} {oj ok : Oper} {t : Nat}, j < m → k < m → all[j]? = some oj → all[k]? = some ok → oj.dst = some t → ok.dst = some t → j = k := by
    intro j k oj ok t hj hk h1 h2 h3 h4
    have := pairs_spec hp (take_at hj h1) (take_at hk h2)
    unfold pairB at this
    rw [h4] at this
    dsimp only at this
    rw [Bool.and_eq_true] at this
    have := this.1
    rw [h3] at this
    simpa using this
  obtain ⟨w1, w2, w3, w4⟩ := tr.heapAt hr
  have hok := tr.at hoT hr
  refine dag_step hok inv.hr w2 w3 ((tr.dom h0).1 hr) (fun c hc => ⟨(w4 c hc).1, (w4 c hc).2, inv.rho i r hr hun (by rw [hc]; exact fun h => by cases h)⟩)
    (by rw [inv.asz, tr.nts.1, tr.nts.2 hr]) ?_ (i := i) hops (by rw [← hops] at ho; simpa using ho) ?_
  · -- what is looked at
    intro t x hc hx
    by_cases hw : ∃ (j : Nat) (oj : Oper), all[j]? = some oj ∧ j < m ∧ oj.dst = some t
    · obtain ⟨j, oj, hj, hjm, hjd⟩ := hw
      have hpair := pairs_spec hp hoT (take_at hjm hj)
      unfold pairB at hpair
      rw [hjd] at hpair
      dsimp only at hpair
      rw [Bool.and_eq_true] at hpair
      rcases bool_or3 hpair.2 hc with q | q | q
      · have e : i = j := by simpa using q
        subst e
        refine inv.tr2 t x (fun k ok hk hkm hkd => ?_) ?_
        · have := uniq hkm hjm hk hj hkd hjd
          subst this; exact hun
        · rw [← tr.before hr fun k ok hk q q' => ?_]
          · exact hx
          · have := at_take q
            have := uniq this.1 hjm this.2 hj q' hjd
            omega
      · have q' : j ∈ R all i := by simpa [R] using q
        have hlt := reach_lt hb ho q'
        refine inv.tr1 t x (fun k ok hk hkm hkd => ?_) ?_
        · have := uniq hkm hjm hk hj hkd hjd
          subst this; exact hreach _ q'
        · rw [tr.behind hr fun k ok hk q q' => ?_]
          · exact hx
          · have := at_take q
            have := uniq this.1 hjm this.2 hj q' hjd
            omega
      · have q' : i ∈ R all j := by simpa [R] using q
        have hlt := reach_lt hb hj q'
        have hju : listed[j]? = some false := by
          have hjl : j < listed.size := by rw [inv.lsize]; exact (List.getElem?_eq_some_iff.1 hj).1
          cases hq : listed[j]? with
          | none => rw [Array.getElem?_eq_getElem hjl] at hq; cases hq
          | some b =>
            cases b with
            | false => rfl
            | true => have := inv.down j oj hj hq i q'; rw [hun] at this; cases this
        refine inv.tr2 t x (fun k ok hk hkm hkd => ?_) ?_
        · have := uniq hkm hjm hk hj hkd hjd
          subst this; exact hju
        · rw [← tr.before hr fun k ok hk q q' => ?_]
          · exact hx
          · have := at_take q
            have := uniq this.1 hjm this.2 hj q' hjd
            omega
    · refine inv.tr1 t x (fun k ok hk hkm hkd => absurd ⟨k, ok, hk, hkm, hkd⟩ hw) ?_
      rw [tr.behind hr fun k ok hk q q' => hw ⟨k, ok, (at_take q).2, (at_take q).1, q'⟩]
      exact hx
  · -- behind it
    intro v W' Sh' ρ' hx hr' hv hρ
    refine hK _ _ _ _ hx ⟨by simp [inv.lsize], ?_, ?_, hr', ?_, ?_, ?_, ?_, ?_⟩
    · intro k hk hkl
      rw [set_get hil, if_neg (by omega)]
      exact inv.later k hk hkl
    · intro k ok hk hl j hj
      rw [set_get hil] at hl ⊢
      by_cases hik : i = k
      · subst hik
        have := hreach j hj
        rw [this]; split <;> rfl
      · rw [if_neg hik] at hl
        have := inv.down k ok hk hl j hj
        rw [this]; split <;> rfl
    · intro k rk hk hl hn
      rw [set_get hil] at hl
      by_cases hik : i = k
      · rw [if_pos hik] at hl; cases hl
      · rw [if_neg hik] at hl
        rcases hρ rk.st.next with q | ⟨q1, q2⟩
        · rw [q]; exact inv.rho k rk hk hl hn
        · rcases Nat.lt_or_ge i k with hlt | hge
          · have := tr.apart hlt hr hk q1; omega
          · have := tr.apart (show k < i by omega) hk hr hn; omega
    · unfold Act.put; cases o.dst <;> exact inv.defers
    · rw [← inv.asz]; unfold Act.put; cases o.dst <;> simp
    · intro t x hall hxx
      by_cases hd : o.dst = some t
      · have hx2 := tr.puts hr hoT hd fun k ok hk q q' => by
          have := at_take q
          have := uniq this.1 him this.2 ho q' hd
          omega
        rw [hx2] at hxx
        cases hxx
        refine ⟨v, ?_, hv⟩
        have hlt : t < a.tmps.size := by
          have := hok.1
          unfold dstOk at this
          rw [hd] at this
          rw [inv.asz, tr.nts.1, ← tr.nts.2 hr]
          exact of_decide_eq_true this
        unfold Act.put
        rw [hd]
        simp [hlt]
      · obtain ⟨w, h1, h2⟩ := inv.tr1 t x (fun k ok hk hkm hkd => by
          have := hall k ok hk hkm hkd
          rw [set_get hil] at this
          by_cases hik : i = k
          · subst hik; rw [ho] at hk; cases hk; exact absurd hkd hd
          · rw [if_neg hik] at this; exact this) hxx
        refine ⟨w, ?_, h2.ext hx⟩
        unfold Act.put
        cases hod : o.dst with
        | none => exact h1
        | some d =>
          show (a.tmps.setIfInBounds d v)[t]? = _
          rw [Array.getElem?_setIfInBounds_ne (by rw [hod] at hd; exact fun e => hd (by rw [e]))]; exact h1
    · intro t x hall hxx
      have hd : o.dst ≠ some t := fun hd => by
        have := hall i o ho him hd
        rw [set_get hil, if_pos rfl] at this; cases this
      obtain ⟨w, h1, h2⟩ := inv.tr2 t x (fun k ok hk hkm hkd => by
          have := hall k ok hk hkm hkd
          rw [set_get hil] at this
          by_cases hik : i = k
          · subst hik; rw [if_pos rfl] at this; cases this
          · rw [if_neg hik] at this; exact this) hxx
      refine ⟨w, ?_, h2.ext hx⟩
      unfold Act.put
      cases hod : o.dst with
      | none => exact h1
      | some d =>
        show (a.tmps.setIfInBounds d v)[t]? = _
        rw [Array.getElem?_setIfInBounds_ne (by rw [hod] at hd; exact fun e => hd (by rw [e]))]; exact h1

def cnt (n : Nat) (listed : Array Bool) : Nat := (List.range n).countP fun i => listed[i]? == some false

theorem countP_lt {f g : Nat → Bool} : ∀ {l : List Nat} {i : Nat}, (∀ k, f k = true → g k = true) → i ∈ l → g i = true → f i = false → l.countP f < l.countP g
  | [], i, _, h, _, _ => by cases h
  | x :: l, i, hm, h, hg, hf => by
    have hle : l.countP f ≤ l.countP g := List.countP_mono_left fun k _ hk => hm k hk
    rw [List.countP_cons, List.countP_cons]
    rcases List.mem_cons.1 h with h | h
    · subst h
      rw [hg, hf]; simp; omega
    · have ih := countP_lt hm h hg hf
      cases hfx : f x with
      | true => rw [hm x hfx]; simp; omega
      | false => simp; omega

theorem cnt_set {n i : Nat} {listed : Array Bool} (hi : i < n) (hl : listed.size = n) (h : listed[i]? = some false) : cnt n (listed.setIfInBounds i true) < cnt n listed := by
  unfold cnt
  refine countP_lt (i := i) (fun k hk => ?_) (by simpa using hi) (by simp [h]) ?_
  · rw [set_get (by omega)] at hk
    split at hk
    · cases hk
    · exact hk
  · rw [set_get (by omega), if_pos rfl]; rfl

/-- Behind the operations that have no order: the others, one after another. -/
theorem chain_any (hτ : ∀ t ti, τ t = some ti → TIok P t ti) {m : Nat} {ops : Array Oper} (hops : ops.toList = all) (hb : backB 0 all = true) (hc : chainB (reaches all []) m (all.length - m) = true) (hm : m ≤ all.length) {K : St → T} {Q' : Exit → Act → World → Prop} :
    ∀ (k fuel i : Nat) (listed : Array Bool) (s : St) (Sh : Nat → Prop) (ρ : Rho) (a : Act) (W : World), i + k = all.length → cnt all.length listed ≤ fuel → m ≤ i → listed.size = all.length → (∀ j, j < i → listed[j]? = some true) → (∀ j, i ≤ j → j < all.length → listed[j]? = some false) →
      Sim G W0 S0 Sh ρ s a W → (T.prop P G B Q (opsT τ G all (all.drop i) s K)) → (∀ s' Sh' ρ' a' W', (T.prop P G B Q (K s')) → Ext Sh ρ W Sh' ρ' W' → Sim G W0 S0 Sh' ρ' s' a' W' → Q' .normal a' W') → wpAny P .any ops Q' fuel listed a W := by
  intro k
  induction k with
  | zero =>
    intro fuel i listed s Sh ρ a W hik hf hmi hl hl1 hl2 sim h hK
    have hno : Region.ready .any ops listed = [] := by
      cases hq : Region.ready .any ops listed with
      | nil => rfl
      | cons x l =>
        have := (ready_iff hops).1 (show x ∈ Region.ready .any ops listed by rw [hq]; exact List.mem_cons_self ..)
        obtain ⟨h1, o, h2, _⟩ := this
        have hx := (List.getElem?_eq_some_iff.1 h2).1
        rw [hl1 x (by omega)] at h1; cases h1
    rw [List.drop_of_length_le (by omega)] at h
    have hq : Q' .normal a W := hK s Sh ρ a W h Ext.refl sim
    cases fuel with
    | zero => exact ⟨hno, hq⟩
    | succ fuel => exact ⟨fun _ => hq, by rw [hno]; intro x hx; cases hx⟩
  | succ k ih =>
    intro fuel i listed s Sh ρ a W hik hf hmi hl hl1 hl2 sim h hK
    have hi : i < all.length := by omega
    have hcs := cnt_set hi hl (hl2 i (Nat.le_refl _) hi)
    obtain ⟨fuel, rfl⟩ : ∃ f, fuel = f + 1 := ⟨fuel - 1, by omega⟩
    obtain ⟨o, ho⟩ : ∃ o, all[i]? = some o := ⟨_, List.getElem?_eq_getElem hi⟩
    have hdrop : all.drop i = o :: all.drop (i + 1) := by
      rw [List.drop_eq_getElem_cons hi]
      rw [List.getElem?_eq_getElem hi] at ho
      cases ho; rfl
    have hin : i ∈ Region.ready .any ops listed := (ready_iff hops).2 ⟨hl2 i (Nat.le_refl _) hi, o, ho, fun e he hbd => hl1 _ (by have := back_spec all 0 hb i o ho e he hbd; omega)⟩
    refine ⟨fun hno => (by rw [hno] at hin; cases hin), fun x hx => ?_⟩
    obtain ⟨q1, ox, q2, q3⟩ := (ready_iff hops).1 hx
    have hxl := (List.getElem?_eq_some_iff.1 q2).1
    have hxi : x = i := by
      rcases Nat.lt_trichotomy x i with q | q | q
      · rw [hl1 x q] at q1; cases q1
      · exact q
      · have hr := chain_spec _ m hc x (by omega) (by omega) i q
        obtain ⟨e, e1, e2, e3⟩ := reach_mem q2 hr
        have hel := q3 e e1 e2
        have hon : e.on < i := by
          rcases Nat.lt_or_ge e.on i with q' | q'
          · exact q'
          · have := back_spec all 0 hb x ox q2 e e1 e2
            rw [hl2 e.on q' (by omega)] at hel; cases hel
        rcases e3 with e3 | ⟨_, e3⟩
        · omega
        · have := reach_lt hb (List.getElem?_eq_getElem (show e.on < all.length by omega)) e3
          omega
    subst hxi
    rw [hdrop] at h
    unfold opsT at h
    have hops' : ops[x]? = some o := by rw [← hops] at ho; simpa using ho
    have later : ∀ s' Sh' ρ' a' W', (T.prop P G B Q (opsT τ G all (all.drop (x + 1)) s' K)) → Ext Sh ρ W Sh' ρ' W' → Sim G W0 S0 Sh' ρ' s' a' W' → wpAny P .any ops Q' fuel (listed.setIfInBounds x true) a' W' := by
      intro s' Sh' ρ' a' W' hs hx' hsim
      refine ih fuel (x + 1) _ s' Sh' ρ' a' W' (by omega) (by omega) (by omega) (by simp [hl]) (fun j hj => ?_) (fun j hj hjl => ?_) hsim hs fun s2 Sh2 ρ2 a2 W2 p1 p2 p3 => hK s2 Sh2 ρ2 a2 W2 p1 (hx'.trans p2) p3
      · rw [set_get (by omega)]
        split
        · rfl
        · exact hl1 j (by omega)
      · rw [set_get (by omega), if_neg (by omega)]
        exact hl2 j (by omega) hjl
    unfold wpOp
    rw [hops']
    dsimp only
    split at h
    · rename_i hd
      obtain ⟨s', hal, ⟨hg, h⟩ | ⟨hg, h⟩⟩ := ifGuard_inv h
      · rw [guard_sound (ops := ops) sim.tr (by rw [hops]; exact hg)]
        simp only [if_true]
        have hd : dstOk o s' = true := by unfold dstOk at hd ⊢; rw [hal.nt]; exact hd
        refine .inl (op_sound hτ (sim.alike hal) hd h ?_)
        intro s' Sh' ρ' a' W' hs he hsim hnt
        exact later s' Sh' ρ' a' W' hs he hsim
      · rw [guard_sound (ops := ops) sim.tr (by rw [hops]; exact hg)]
        simp only [Bool.false_eq_true, if_false]
        have hd : dstOk o s' = true := by unfold dstOk at hd ⊢; rw [hal.nt]; exact hd
        exact later _ Sh ρ _ W h Ext.refl ((sim.alike hal).put hd (.tuple (vs := #[]) rfl fun i x v p q => by simp at p))
    · exact h.elim

theorem dag_any (hτ : ∀ t ti, τ t = some ti → TIok P t ti) {m : Nat} {s0 sf : St} {rs : List Rec} {ops : Array Oper} (hops : ops.toList = all) (hb : backB 0 all = true) (hc : chainB (reaches all []) m (all.length - m) = true) (hm : m ≤ all.length)
    (hp : pairsB all (reaches all []) (all.take m) = true) (tr : Tr P G all (all.take m) s0 rs sf) (h0 : ∀ id x, look s0.heap id = some x → id < s0.next) {K : St → T} {Q' : Exit → Act → World → Prop} (h : (T.prop P G B Q (opsT τ G all (all.drop m) sf K))) :
    ∀ (fuel : Nat) (listed : Array Bool) (Sh : Nat → Prop) (ρ : Rho) (a : Act) (W : World), cnt all.length listed ≤ fuel → DInv P G all m s0 rs sf W0 S0 listed Sh ρ a W →
      (∀ s' Sh' ρ' a' W', (T.prop P G B Q (K s')) → Ext Sh ρ W Sh' ρ' W' → Sim G W0 S0 Sh' ρ' s' a' W' → Q' .normal a' W') → wpAny P .any ops Q' fuel listed a W := by
  -- all of them are listed
  have full : ∀ (fuel : Nat) (listed : Array Bool) (Sh : Nat → Prop) (ρ : Rho) (a : Act) (W : World), cnt all.length listed ≤ fuel → DInv P G all m s0 rs sf W0 S0 listed Sh ρ a W → (∀ i, i < m → listed[i]? = some true) →
      (∀ s' Sh' ρ' a' W', (T.prop P G B Q (K s')) → Ext Sh ρ W Sh' ρ' W' → Sim G W0 S0 Sh' ρ' s' a' W' → Q' .normal a' W') → wpAny P .any ops Q' fuel listed a W := by
    intro fuel listed Sh ρ a W hcnt inv hall hK
    exact chain_any hτ hops hb hc hm (all.length - m) fuel m listed sf Sh ρ a W (by omega) hcnt (Nat.le_refl _) inv.lsize hall inv.later
      ⟨inv.defers, inv.hr, inv.asz, fun t x q => inv.tr1 t x (fun j o _ hj _ => hall j hj) q⟩ h hK
  have none_or : ∀ (listed : Array Bool), listed.size = all.length → (∀ i, i < m → listed[i]? = some true) ∨ ∃ i, i < m ∧ listed[i]? = some false ∧ ∀ j, j < i → listed[j]? = some true := by
    intro listed hl
    have key : ∀ n, n ≤ m → (∀ i, i < n → listed[i]? = some true) ∨ ∃ i, i < m ∧ listed[i]? = some false ∧ ∀ j, j < i → listed[j]? = some true := by
      intro n
      induction n with
      | zero => exact fun _ => .inl fun i h => by omega
      | succ n ih =>
        intro hn
        rcases ih (by omega) with q | q
        · cases hx : listed[n]? with
          | none => rw [Array.getElem?_eq_none_iff] at hx; omega
          | some b =>
            cases b with
            | false => exact .inr ⟨n, by omega, hx, q⟩
            | true =>
              refine .inl fun i hi => ?_
              by_cases e : i = n
              · subst e; exact hx
              · exact q i (by omega)
        · exact .inr q
    exact key m (Nat.le_refl _)
  intro fuel
  induction fuel with
  | zero =>
    intro listed Sh ρ a W hcnt inv hK
    rcases none_or listed inv.lsize with q | ⟨i, h1, h2, _⟩
    · exact full 0 listed Sh ρ a W hcnt inv q hK
    · have := cnt_set (show i < all.length by omega) inv.lsize h2
      omega
  | succ fuel ih =>
    intro listed Sh ρ a W hcnt inv hK
    rcases none_or listed inv.lsize with q | ⟨i, h1, h2, h3⟩
    · exact full (fuel + 1) listed Sh ρ a W hcnt inv q hK
    · have hi : i < all.length := by omega
      have ho := List.getElem?_eq_getElem hi
      have hin : i ∈ Region.ready .any ops listed := (ready_iff hops).2 ⟨h2, _, ho, fun e he hbd => h3 _ (by have := back_spec all 0 hb i _ ho e he hbd; omega)⟩
      refine ⟨fun hno => (by rw [hno] at hin; cases hin), fun x hx => ?_⟩
      obtain ⟨q1, ox, q2, q3⟩ := (ready_iff hops).1 hx
      have hxl := (List.getElem?_eq_some_iff.1 q2).1
      have hxm : x < m := by
        rcases Nat.lt_or_ge x m with q | q
        · exact q
        · have hr := chain_spec _ m hc x q (by omega) i (by omega)
          have := ready_reach q2 q3 inv.down hb i hr
          rw [h2] at this; cases this
      refine dag_next hops hb hp tr h0 inv hxm hx fun a' W' Sh' ρ' hx' inv' => ?_
      refine ih _ Sh' ρ' a' W' ?_ inv' fun s2 Sh2 ρ2 a2 W2 p1 p2 p3 => hK s2 Sh2 ρ2 a2 W2 p1 (hx'.trans p2) p3
      have := cnt_set hxl inv.lsize q1
      omega

/-- A region whose order is drawn. -/
theorem draw_sound (hτ : ∀ t ti, τ t = some ti → TIok P t ti) (hmix : P.follows .mixedOrders = true) {id : Nat} {ops : Array Oper} {K : St → T} {Q' : Exit → Act → World → Prop} (sim : Sim G W0 S0 Sh ρ s a W) (h : (T.prop P G B Q (drawT τ G ops.toList s K)))
    (hK : ∀ s' Sh' ρ' a' W', (T.prop P G B Q (K s')) → Ext Sh ρ W Sh' ρ' W' → Sim G W0 S0 Sh' ρ' s' a' W' → Q' .normal a' W') : (Code.region id ops true).wp P Q' a W := by
  unfold drawT at h
  split at h
  rotate_left
  · exact h.elim
  rename_i hok
  unfold drawOk at hok
  simp only [Bool.and_eq_true, decide_eq_true_eq] at hok
  obtain ⟨⟨⟨hb, hc⟩, hp⟩, hm⟩ := hok
  obtain ⟨rs, sf, tr, h⟩ := opsD_sound hτ _ _ h
  refine wp_region_any hmix ?_
  -- the draw
  have hbl : Below W.heap.size W { W with drawn := W.drawn + 1 } := ⟨rfl, rfl, rfl, Nat.le_refl _, fun _ _ => rfl⟩
  obtain ⟨x1, x2⟩ := sim.hr.call hbl (fun _ h => h) (fun _ h => .inl h) sim.hr.slt
  have hh := tr.heap
  have x3 := x2.ahead hh.1 hh.2 (tr.dom sim.hr.dom).2
  have un : ∀ (i : Nat), i < ops.toList.length → (Array.replicate ops.size false)[i]? = some false := fun i hi => by
    rw [Array.getElem?_replicate, if_pos (by simpa using hi)]
  have nt : ∀ (i : Nat), (Array.replicate ops.size false)[i]? ≠ some true := fun i hi => by
    rw [Array.getElem?_replicate] at hi
    split at hi <;> cases hi
  refine dag_any hτ rfl hb hc hm hp tr sim.hr.dom h ops.size _ Sh ρ a _ ?_ ⟨by simp, fun i _ hi => un i hi, fun k o _ hl => absurd hl (nt k), x3, ?_, sim.defers, ?_, ?_, ?_⟩ fun s' Sh' ρ' a' W' q1 q2 q3 => hK s' Sh' ρ' a' W' q1 (x1.trans q2) q3
  · unfold cnt
    refine Nat.le_trans (List.countP_le_length) (by simp)
  · intro i r hr _ _
    exact x2.fresh _ (tr.heapAt hr).1
  · rw [sim.tr.1, tr.nts.1]
  · intro t x hall hx
    rw [tr.keep fun k o q q' => nt k (hall k o (at_take q).2 (at_take q).1 q')] at hx
    obtain ⟨v, h1, h2⟩ := sim.tr.2 t x hx
    exact ⟨v, h1, h2.ext x1⟩
  · intro t x _ hx
    obtain ⟨v, h1, h2⟩ := sim.tr.2 t x hx
    exact ⟨v, h1, h2.ext x1⟩
end
end Go.Ax
