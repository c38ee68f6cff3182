/-
  The small abstract machine: operations whose order is drawn.
-/
import Derived.Test.YtcohbcdhcmajiaaDoorAx15
import Derived.Orders
namespace Go.Ax
open Go.RowKit
set_option linter.unusedVariables false

section
variable {P : Program} {G : Nat → Option (List AV)} {B : Nat} {Q : Ex → St → Prop} {τ : Tys}
variable {W0 : World} {S0 Sh : Nat → Prop} {ρ : Rho} {W : World} {s : St} {a : Act}

theorem binds_eq (e : Edge) : Region.binds .any e = bindsT e := by
  unfold Region.binds bindsT
  cases e.ground <;> rfl

theorem reachOf_mem {acc : List (List Nat)} {j : Nat} : ∀ {l : List Edge}, j ∈ reachOf acc l → ∃ e ∈ l, bindsT e = true ∧ (j = e.on ∨ j ∈ acc.getD e.on [])
  | [], h => by cases h
  | e :: l, h => by
    unfold reachOf at h
    split at h
    · rename_i hb
      rcases List.mem_cons.1 h with h | h
      · exact ⟨e, List.mem_cons_self .., hb, .inl h⟩
      · rcases List.mem_append.1 h with h | h
        · exact ⟨e, List.mem_cons_self .., hb, .inr h⟩
        · obtain ⟨e', h1, h2⟩ := reachOf_mem h
          exact ⟨e', List.mem_cons_of_mem _ h1, h2⟩
    · obtain ⟨e', h1, h2⟩ := reachOf_mem h
      exact ⟨e', List.mem_cons_of_mem _ h1, h2⟩

theorem reaches_spec : ∀ (l : List Oper) (acc : List (List Nat)), ∃ ext, reaches l acc = acc ++ ext ∧ ext.length = l.length ∧ ∀ (k : Nat) (o : Oper), l[k]? = some o → ext[k]? = some (reachOf (acc ++ ext.take k) o.after.toList)
  | [], acc => ⟨[], by simp [reaches], rfl, fun k o h => by simp at h⟩
  | o :: l, acc => by
    obtain ⟨ext, h1, h2, h3⟩ := reaches_spec l (acc ++ [reachOf acc o.after.toList])
    refine ⟨reachOf acc o.after.toList :: ext, by rw [reaches, h1]; simp, by simp [h2], fun k o' h => ?_⟩
    cases k with
    | zero => simp at h; subst h; simp
    | succ k =>
      simp at h
      have := h3 k o' h
      simpa using this

theorem reach_mem {all : List Oper} {i j : Nat} {o : Oper} (ho : all[i]? = some o) (h : j ∈ (reaches all []).getD i []) : ∃ e ∈ o.after, bindsT e = true ∧ (j = e.on ∨ (e.on < i ∧ j ∈ (reaches all []).getD e.on [])) := by
  obtain ⟨ext, h1, h2, h3⟩ := reaches_spec all []
  rw [List.nil_append] at h1
  rw [h1] at h ⊢
  have hi := h3 i o ho
  rw [List.nil_append] at hi
  rw [List.getD_eq_getElem?_getD, hi, Option.getD_some] at h
  obtain ⟨e, q1, q2, q3⟩ := reachOf_mem h
  refine ⟨e, by simpa using q1, q2, ?_⟩
  rcases q3 with q3 | q3
  · exact .inl q3
  · rw [List.getD_eq_getElem?_getD, List.getElem?_take] at q3
    split at q3
    · rename_i hlt
      exact .inr ⟨hlt, by rw [List.getD_eq_getElem?_getD]; exact q3⟩
    · cases q3

theorem back_spec : ∀ (l : List Oper) (i : Nat), backB i l = true → ∀ (k : Nat) (o : Oper), l[k]? = some o → ∀ e ∈ o.after, bindsT e = true → e.on < i + k
  | [], i, _, k, o, h => by simp at h
  | x :: l, i, hb, k, o, h => by
    unfold backB at hb
    simp only [Bool.and_eq_true] at hb
    cases k with
    | zero =>
      simp at h
      subst h
      intro e he hbd
      have := List.all_eq_true.1 hb.1 e (by simpa using he)
      simp [hbd] at this
      exact this
    | succ k =>
      simp at h
      intro e he hbd
      have := back_spec l (i + 1) hb.2 k o h e he hbd
      omega

theorem reach_lt {all : List Oper} (hb : backB 0 all = true) : ∀ {i j : Nat} {o : Oper}, all[i]? = some o → j ∈ (reaches all []).getD i [] → j < i := by
  intro i
  induction i using Nat.strongRecOn with
  | ind i ih =>
    intro j o ho h
    obtain ⟨e, h1, h2, h3⟩ := reach_mem ho h
    have hlt := back_spec all 0 hb i o ho e h1 h2
    rcases h3 with rfl | ⟨h4, h5⟩
    · omega
    · have hl : e.on < all.length := by have := (List.getElem?_eq_some_iff.1 ho).1; omega
      have := ih e.on h4 (List.getElem?_eq_getElem hl) h5
      omega

theorem chain_spec {rs : List (List Nat)} : ∀ (n i : Nat), chainB rs i n = true → ∀ k, i ≤ k → k < i + n → ∀ j, j < k → j ∈ rs.getD k []
  | 0, i, _, k, h1, h2 => by omega
  | n + 1, i, h, k, h1, h2 => by
    unfold chainB at h
    simp only [Bool.and_eq_true] at h
    intro j hj
    by_cases hk : k = i
    · subst hk
      have := List.all_eq_true.1 h.1 j (by simpa using hj)
      simpa using this
    · exact chain_spec n (i + 1) h.2 k (by omega) (by omega) j hj

theorem pairs_spec {all : List Oper} {rs : List (List Nat)} {l : List Oper} (h : pairsB all rs l = true) {i j : Nat} {oi oj : Oper} (hi : l[i]? = some oi) (hj : l[j]? = some oj) : pairB all rs i j oi oj = true := by
  unfold pairsB at h
  have := List.all_eq_true.1 h i (by simpa using (List.getElem?_eq_some_iff.1 hi).1)
  have := List.all_eq_true.1 this j (by simpa using (List.getElem?_eq_some_iff.1 hj).1)
  simpa [hi, hj] using this

/-! The record of the operations in their first order. -/
structure Rec where
  st : St
  x : AV
  nw : Option L

def stepD (s : St) (o : Oper) (x : AV) : Option L → St
  | none => s.put o.dst x
  | some l => s.new o.dst x l

def narrow (all : List Oper) (o : Oper) (s : St) : St := { s with tmps := keepT (looksT all o) s.tmps }

/-- A call by a contract. -/
structure FcOk (P : Program) (G : Nat → Option (List AV)) (o : Oper) (s : St) (x : AV) : Prop where
  out : ∃ (c : Call) (fo : Operand) (f : Nat) (first captured vs fargs : List AV), o.op = .call c ∧ c.callee = .value fo ∧ s.ev G fo = some (.func f first captured) ∧ s.evs G c.args.toList = some vs ∧
    FrzL s.heap (first ++ vs ++ captured) fargs ∧ FnA P G f fargs x ∧ (Flat x ∨ ∀ y ∈ first ++ vs ++ captured, Closed y)

def DagOk (P : Program) (G : Nat → Option (List AV)) (o : Oper) (s : St) (x : AV) : Option L → Prop
  | some l => NewOk P G o s x l
  | none => ValOk P G o s x ∨ FcOk P G o s x

def RecOk (P : Program) (G : Nat → Option (List AV)) (all : List Oper) (o : Oper) (r : Rec) : Prop :=
  dstOk o r.st = true ∧ ((guardT all o r.st = some false ∧ r.x = .tuple [] ∧ r.nw = none) ∨ (guardT all o r.st = some true ∧ DagOk P G o (narrow all o r.st) r.x r.nw))

inductive Tr (P : Program) (G : Nat → Option (List AV)) (all : List Oper) : List Oper → St → List Rec → St → Prop where
  | nil {st} : Tr P G all [] st [] st
  | cons {o l st r rs sf} (hs : r.st = st) (h : RecOk P G all o r) (k : Tr P G all l (stepD st o r.x r.nw) rs sf) : Tr P G all (o :: l) st (r :: rs) sf

theorem dagT_sound (hτ : ∀ t ti, τ t = some ti → TIok P t ti) {o : Oper} {s : St} {K : AV → Option L → T} (h : (T.prop P G B Q (dagT τ G o s K))) : ∃ x nw, (T.prop P G B Q (K x nw)) ∧ DagOk P G o s x nw := by
  unfold dagT at h
  split at h
  · split at h
    · exact h.elim
    split at h
    · obtain ⟨x, l, h, hn⟩ := newT_sound hτ h
      exact ⟨x, some l, h, hn⟩
    · split at h
      · rename_i f args ts ho
        split at h
        · rename_i fid first captured vs hf hv
          obtain ⟨fargs, res, h1, h2, h3, h4⟩ := h.out
          exact ⟨res, none, h4, .inr ⟨_, f, fid, first, captured, vs, fargs, ho, rfl, hf, hv, h1, h2, h3⟩⟩
        · exact h.elim
      · exact h.elim
  · obtain ⟨x, h, hv⟩ := val_sound hτ h
    exact ⟨x, none, h, .inl hv⟩

theorem opsD_sound (hτ : ∀ t ti, τ t = some ti → TIok P t ti) {all : List Oper} {K : St → T} : ∀ (l : List Oper) (s : St), (T.prop P G B Q (opsD τ G all l s K)) → ∃ rs sf, Tr P G all l s rs sf ∧ (T.prop P G B Q (K sf))
  | [], s, h => ⟨[], s, .nil, h⟩
  | o :: l, s, h => by
    unfold opsD at h
    split at h
    · rename_i hd
      obtain ⟨s', hal, ⟨hg, h⟩ | ⟨hg, h⟩⟩ := ifGuard_inv h
      · obtain ⟨x, nw, h, hk⟩ := dagT_sound hτ h
        have h' : (T.prop P G B Q (opsD τ G all l (stepD s o x nw) K)) := by cases nw <;> exact h
        obtain ⟨rs, sf, h1, h2⟩ := opsD_sound hτ l _ h'
        exact ⟨⟨s, x, nw⟩ :: rs, sf, .cons rfl ⟨hd, .inr ⟨hg, hk⟩⟩ h1, h2⟩
      · obtain ⟨rs, sf, h1, h2⟩ := opsD_sound hτ l _ h
        exact ⟨⟨s, .tuple [], none⟩ :: rs, sf, .cons rfl ⟨hd, .inl ⟨hg, rfl, rfl⟩⟩ h1, h2⟩
    · exact h.elim

theorem look_put_ne {s : St} {d : Option Nat} {x : AV} {t : Nat} (h : d ≠ some t) : look (s.put d x).tmps t = look s.tmps t := by
  cases d with
  | none => rfl
  | some d =>
    show look ((d, x) :: s.tmps) t = _
    rw [look, if_neg (fun e => h (by rw [e]))]
theorem look_step_ne {s : St} {o : Oper} {x : AV} {nw : Option L} {t : Nat} (h : o.dst ≠ some t) : look (stepD s o x nw).tmps t = look s.tmps t := by
  cases nw with
  | none => exact look_put_ne h
  | some l => exact look_put_ne (s := { s with heap := (s.next, some ⟨l, false⟩) :: s.heap, next := s.next + 1 }) h
theorem look_step_eq {s : St} {o : Oper} {x : AV} {nw : Option L} {t : Nat} (h : o.dst = some t) : look (stepD s o x nw).tmps t = some x := by
  cases nw with
  | none => unfold stepD St.put; rw [h]; simp [look]
  | some l => unfold stepD St.new St.put; rw [h]; simp [look]
theorem nt_step {s : St} {o : Oper} {x : AV} {nw : Option L} : (stepD s o x nw).nt = s.nt := by
  cases nw with
  | none => exact nt_put _ _ _
  | some l => exact nt_put _ _ _
theorem put_heap (s : St) (d : Option Nat) (x : AV) : (s.put d x).heap = s.heap ∧ (s.put d x).next = s.next := by cases d <;> exact ⟨rfl, rfl⟩
theorem heap_step {s : St} {o : Oper} {x : AV} {nw : Option L} : (nw = none → (stepD s o x nw).heap = s.heap ∧ (stepD s o x nw).next = s.next) ∧
    (∀ l, nw = some l → (stepD s o x nw).heap = (s.next, some ⟨l, false⟩) :: s.heap ∧ (stepD s o x nw).next = s.next + 1) := by
  cases nw with
  | none => exact ⟨fun _ => put_heap _ _ _, fun l h => (by cases h)⟩
  | some l => exact ⟨fun h => (by cases h), fun l' h => (by cases h; exact put_heap _ _ _)⟩

variable {all : List Oper}

theorem Tr.len {l s rs sf} (h : Tr P G all l s rs sf) : rs.length = l.length := by
  induction h with
  | nil => rfl
  | cons _ _ _ ih => simp [ih]
theorem Tr.at {l s rs sf} (h : Tr P G all l s rs sf) : ∀ {i : Nat} {o : Oper} {r : Rec}, l[i]? = some o → rs[i]? = some r → RecOk P G all o r := by
  induction h with
  | nil => intro i o r h; simp at h
  | cons hs hk k ih =>
    intro i o r h1 h2
    cases i with
    | zero => simp at h1 h2; subst h1; subst h2; exact hk
    | succ i => exact ih (by simpa using h1) (by simpa using h2)
/-- What is put nowhere stays. -/
theorem Tr.keep {l s rs sf} (h : Tr P G all l s rs sf) : ∀ {t}, (∀ (i : Nat) (o : Oper), l[i]? = some o → o.dst ≠ some t) → look sf.tmps t = look s.tmps t := by
  induction h with
  | nil => intro t h; rfl
  | cons hs hk k ih =>
    intro t h
    rw [ih fun i o q => h (i + 1) o (by simpa using q), look_step_ne (h 0 _ rfl)]
theorem Tr.before {l s rs sf} (h : Tr P G all l s rs sf) : ∀ {n : Nat} {r : Rec} {t : Nat}, rs[n]? = some r → (∀ (i : Nat) (o : Oper), i < n → l[i]? = some o → o.dst ≠ some t) → look r.st.tmps t = look s.tmps t := by
  induction h with
  | nil => intro n r t h; simp at h
  | cons hs hk k ih =>
    intro n r t hr h
    cases n with
    | zero => simp at hr; subst hr; rw [hs]
    | succ n => rw [ih (by simpa using hr) fun i o q q' => h (i + 1) o (by omega) (by simpa using q'), look_step_ne (h 0 _ (by omega) rfl)]
theorem Tr.behind {l s rs sf} (h : Tr P G all l s rs sf) : ∀ {n : Nat} {r : Rec} {t : Nat}, rs[n]? = some r → (∀ (i : Nat) (o : Oper), n ≤ i → l[i]? = some o → o.dst ≠ some t) → look sf.tmps t = look r.st.tmps t := by
  induction h with
  | nil => intro n r t h; simp at h
  | cons hs hk k ih =>
    intro n r t hr h
    cases n with
    | zero =>
      simp at hr; subst hr
      rw [hs]
      exact (Tr.cons hs hk k).keep fun i o q => h i o (Nat.zero_le _) q
    | succ n => exact ih (by simpa using hr) fun i o q q' => h (i + 1) o (by omega) (by simpa using q')
theorem Tr.puts {l s rs sf} (h : Tr P G all l s rs sf) : ∀ {n : Nat} {o : Oper} {r : Rec} {t : Nat}, rs[n]? = some r → l[n]? = some o → o.dst = some t → (∀ (i : Nat) (o : Oper), n < i → l[i]? = some o → o.dst ≠ some t) → look sf.tmps t = some r.x := by
  induction h with
  | nil => intro n o r t h; simp at h
  | cons hs hk k ih =>
    intro n o r t hr ho hd h
    cases n with
    | zero =>
      simp at hr ho; subst hr; subst ho
      rw [k.keep fun i o q => h (i + 1) o (by omega) (by simpa using q)]
      exact look_step_eq hd
    | succ n => exact ih (by simpa using hr) (by simpa using ho) hd fun i o q q' => h (i + 1) o (by omega) (by simpa using q')
theorem Tr.nts {l s rs sf} (h : Tr P G all l s rs sf) : sf.nt = s.nt ∧ ∀ {n : Nat} {r : Rec}, rs[n]? = some r → r.st.nt = s.nt := by
  induction h with
  | nil => exact ⟨rfl, fun h => by simp at h⟩
  | cons hs hk k ih =>
    refine ⟨ih.1.trans nt_step, fun {n r} hr => ?_⟩
    cases n with
    | zero => simp at hr; subst hr; rw [hs]
    | succ n => exact (ih.2 (by simpa using hr)).trans nt_step
theorem next_step {s : St} {o : Oper} {x : AV} {nw : Option L} : s.next ≤ (stepD s o x nw).next ∧ ∀ id, id < s.next → look (stepD s o x nw).heap id = look s.heap id := by
  cases nw with
  | none => obtain ⟨h1, h2⟩ := (heap_step (s := s) (o := o) (x := x)).1 rfl; rw [h1, h2]; exact ⟨Nat.le_refl _, fun _ _ => rfl⟩
  | some l =>
    obtain ⟨h1, h2⟩ := (heap_step (s := s) (o := o) (x := x)).2 l rfl
    rw [h1, h2]
    exact ⟨Nat.le_succ _, fun id hid => by rw [look, if_neg (by omega)]⟩
theorem Tr.heap {l s rs sf} (h : Tr P G all l s rs sf) : s.next ≤ sf.next ∧ ∀ id, id < s.next → look sf.heap id = look s.heap id := by
  induction h with
  | nil => exact ⟨Nat.le_refl _, fun _ _ => rfl⟩
  | cons hs hk k ih =>
    obtain ⟨a, b⟩ := next_step (s := _) (o := _) (x := _) (nw := _)
    exact ⟨Nat.le_trans a ih.1, fun id hid => (ih.2 id (Nat.lt_of_lt_of_le hid a)).trans (b id hid)⟩
theorem Tr.heapAt {l s rs sf} (h : Tr P G all l s rs sf) : ∀ {n : Nat} {r : Rec}, rs[n]? = some r → s.next ≤ r.st.next ∧ r.st.next ≤ sf.next ∧ (∀ id, id < r.st.next → look sf.heap id = look r.st.heap id) ∧
    (∀ c, r.nw = some c → r.st.next < sf.next ∧ look sf.heap r.st.next = some (some ⟨c, false⟩)) := by
  induction h with
  | nil => intro n r h; simp at h
  | cons hs hk k ih =>
    intro n r hr
    cases n with
    | zero =>
      simp at hr; subst hr
      have hh := (Tr.cons hs hk k).heap
      rw [hs]
      refine ⟨Nat.le_refl _, hh.1, hh.2, fun c hc => ?_⟩
      have hk := k.heap
      obtain ⟨h1, h2⟩ := heap_step.2 c hc
      rw [h2] at hk
      refine ⟨hk.1, ?_⟩
      rw [hk.2 _ (Nat.lt_succ_self _), h1]; simp [look]
    | succ n =>
      obtain ⟨a, b, c, d⟩ := ih (by simpa using hr)
      exact ⟨Nat.le_trans next_step.1 a, b, c, d⟩
theorem Tr.dom {l s rs sf} (h : Tr P G all l s rs sf) : (∀ id x, look s.heap id = some x → id < s.next) → (∀ {n : Nat} {r : Rec}, rs[n]? = some r → ∀ id x, look r.st.heap id = some x → id < r.st.next) ∧ (∀ id x, look sf.heap id = some x → id < sf.next) := by
  induction h with
  | nil => exact fun h => ⟨fun h => by simp at h, h⟩
  | @cons o l s r rs sf hs hk k ih =>
    intro h0
    have h1 : ∀ id x, look (stepD s o r.x r.nw).heap id = some x → id < (stepD s o r.x r.nw).next := by
      intro id x q
      cases hn : r.nw with
      | none =>
        rw [hn] at q
        obtain ⟨e1, e2⟩ := (heap_step (s := s) (o := o) (x := r.x) (nw := none)).1 rfl
        rw [e1] at q; rw [e2]; exact h0 id x q
      | some c =>
        rw [hn] at q
        obtain ⟨e1, e2⟩ := (heap_step (s := s) (o := o) (x := r.x) (nw := some c)).2 c rfl
        rw [e1] at q; rw [e2]
        unfold look at q
        split at q
        · omega
        · exact Nat.lt_succ_of_lt (h0 id x q)
    refine ⟨fun {n r'} hr => ?_, (ih h1).2⟩
    cases n with
    | zero => simp at hr; subst hr; rw [hs]; exact h0
    | succ n => exact (ih h1).1 (by simpa using hr)
theorem Tr.apart {l s rs sf} (h : Tr P G all l s rs sf) : ∀ {i j : Nat} {r q : Rec}, i < j → rs[i]? = some r → rs[j]? = some q → r.nw ≠ none → r.st.next < q.st.next := by
  induction h with
  | nil => intro i j r q _ h; simp at h
  | @cons o l s r0 rs sf hs hk k ih =>
    intro i j r q hij h1 h2 hn
    cases j with
    | zero => omega
    | succ j =>
      cases i with
      | zero =>
        simp at h1; subst h1
        cases hc : r0.nw with
        | none => exact absurd hc hn
        | some c =>
          have := (k.heapAt (n := j) (r := q) (by simpa using h2)).1
          rw [hc, (heap_step.2 c rfl).2] at this
          rw [hs]; omega
      | succ i => exact ih (i := i) (j := j) (by omega) (by simpa using h1) (by simpa using h2) hn

theorem look_keep {ts : List Nat} {t : Nat} : ∀ (l : List (Nat × AV)), look (keepT ts l) t = if ts.contains t then look l t else none
  | [] => by simp [keepT, look]
  | (k, v) :: l => by
    have ih := look_keep (ts := ts) (t := t) l
    unfold keepT
    by_cases hk : ts.contains k = true
    · rw [if_pos hk]
      unfold look
      by_cases e : k = t
      · subst e; rw [if_pos rfl, if_pos rfl, if_pos hk]
      · rw [if_neg e, if_neg e]; exact ih
    · rw [if_neg hk, ih]
      conv => rhs; unfold look
      by_cases e : k = t
      · subst e; rw [if_neg hk, if_neg hk]
      · rw [if_neg e]
end
end Go.Ax
