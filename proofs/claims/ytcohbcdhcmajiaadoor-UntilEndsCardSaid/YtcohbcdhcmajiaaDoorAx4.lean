/-
  The small abstract machine: what its steps ask.
-/
import Derived.Test.YtcohbcdhcmajiaaDoorAx3
namespace Go.Ax
open Go.RowKit
set_option linter.unusedVariables false

section
variable {P : Program} {G : Nat → Option (List AV)} {B : Nat} {Q : Ex → St → Prop}

theorem addN_inv {a b K} (h : (T.prop P G B Q (addN a b K))) : ∃ r : N, r.v = a.v + b.v ∧ (T.prop P G B Q (K r)) := by
  unfold addN at h
  split at h
  · exact ⟨_, by simp [N.v], h⟩
  · exact ⟨_, by simp [N.v], h⟩
  · exact ⟨_, rfl, h⟩
  · exact h
theorem mulN_inv {a b K} (h : (T.prop P G B Q (mulN a b K))) : ∃ r : N, r.v = a.v * b ∧ (T.prop P G B Q (K r)) := by
  unfold mulN at h
  split at h
  · exact ⟨_, by simp, h⟩
  · exact ⟨_, rfl, h⟩
  · exact h
theorem subN_inv {a b K} (h : (T.prop P G B Q (subN a b K))) : ∃ r : N, r.v = a.v - b.v ∧ (T.prop P G B Q (K r)) := by
  unfold subN at h
  split at h
  · exact ⟨_, by simp [N.v], h⟩
  · exact ⟨_, rfl, h⟩
  · exact h
theorem leN_inv {a b K} (h : (T.prop P G B Q (leN a b K))) : a.v ≤ b.v ∧ (T.prop P G B Q (K ())) := by
  unfold leN at h
  split at h
  · split at h
    · exact ⟨by assumption, h⟩
    · exact h.elim
  · exact ⟨of_decide_eq_true h.1, h.2⟩
theorem ltN_inv {a b K} (h : (T.prop P G B Q (ltN a b K))) : a.v < b.v ∧ (T.prop P G B Q (K ())) := by
  unfold ltN at h
  split at h
  · split at h
    · exact ⟨by assumption, h⟩
    · exact h.elim
  · exact ⟨of_decide_eq_true h.1, h.2⟩
theorem gapN_inv {a b X Y} (h : (T.prop P G B Q (gapN a b X Y))) : (a.v < b.v ∧ (T.prop P G B Q (X ()))) ∨ (b.v ≤ a.v ∧ (T.prop P G B Q (Y ()))) := by
  unfold gapN at h
  split at h
  · split at h
    · exact .inl ⟨by assumption, h⟩
    · exact .inr ⟨by simp only [N.v]; omega, h⟩
  · by_cases q : a.v < b.v
    · exact .inl ⟨q, h.1 (decide_eq_true q)⟩
    · exact .inr ⟨by omega, h.2 (decide_eq_false q)⟩
theorem eqN_inv {a b K} (h : (T.prop P G B Q (eqN a b K))) : a.v = b.v ∧ (T.prop P G B Q (K ())) := by
  unfold eqN at h
  split at h
  · split at h
    · exact ⟨by assumption, h⟩
    · exact h.elim
  · exact ⟨of_decide_eq_true h.1, h.2⟩
theorem natI_inv {a K} (h : (T.prop P G B Q (natI a K))) : ∃ r : N, r.v = a.v.toNat ∧ (T.prop P G B Q (K r)) := by
  unfold natI at h
  split at h
  · exact ⟨_, rfl, h⟩
  · exact h
theorem intN_v (a : N) : (intN a).v = (a.v : Int) := by cases a <;> rfl
theorem leI_inv {i n K} (h : (T.prop P G B Q (leI i n K))) : (0 ≤ i.v ∧ i.v ≤ n.v) ∧ (T.prop P G B Q (K ())) := by
  unfold leI at h
  split at h
  · split at h
    · exact ⟨by assumption, h⟩
    · exact h.elim
  · exact ⟨of_decide_eq_true h.1, h.2⟩
theorem ltI_inv {i n K} (h : (T.prop P G B Q (ltI i n K))) : (0 ≤ i.v ∧ i.v < n.v) ∧ (T.prop P G B Q (K ())) := by
  unfold ltI at h
  split at h
  · split at h
    · exact ⟨by assumption, h⟩
    · exact h.elim
  · exact ⟨of_decide_eq_true h.1, h.2⟩
theorem lenLit_eq (l : List AV) : lenLit l = l.length := by induction l with | nil => rfl | cons a l ih => simp [lenLit, ih]
theorem getL_inv {t l i K} (h : (T.prop P G B Q (getL t l i K))) : ∃ x y, l.v[i.v]? = some x ∧ VLe x y ∧ (T.prop P G B Q (K y)) := by
  unfold getL at h
  split at h
  · split at h
    · exact ⟨_, _, by assumption, VLe.refl _, h⟩
    · exact h.elim
  · exact h
theorem fitL_inv {l i n K} (h : (T.prop P G B Q (fitL l i n K))) : i.v + n.v ≤ l.v.length ∧ (T.prop P G B Q (K ())) := by
  unfold fitL at h
  split at h
  · split at h
    · rename_i q; rw [lenLit_eq] at q; exact ⟨q, h⟩
    · exact h.elim
  · exact ⟨of_decide_eq_true h.1, h.2⟩
theorem subL_inv {l i n K} (h : (T.prop P G B Q (subL l i n K))) : i.v + n.v ≤ l.v.length ∧ ∃ r : L, r.v = (l.v.drop i.v).take n.v ∧ (T.prop P G B Q (K r)) := by
  unfold subL at h
  obtain ⟨h1, h⟩ := fitL_inv h
  refine ⟨h1, ?_⟩
  split at h
  · exact ⟨_, rfl, h⟩
  · exact h
theorem appL_inv {l m K} (h : (T.prop P G B Q (appL l m K))) : ∃ r : L, r.v = l.v ++ m.v ∧ (T.prop P G B Q (K r)) := by
  unfold appL at h
  split at h
  · exact ⟨_, rfl, h⟩
  · exact h
theorem sizeL_inv {m n K} (h : (T.prop P G B Q (sizeL m n K))) : m.v.length = n.v ∧ (T.prop P G B Q (K ())) := by
  unfold sizeL at h
  split at h
  · split at h
    · rename_i q; rw [lenLit_eq] at q; exact ⟨q, h⟩
    · exact h.elim
  · exact ⟨of_decide_eq_true h.1, h.2⟩
theorem writeL_inv {l off n m K} (h : (T.prop P G B Q (writeL l off n m K))) : off.v + n.v ≤ l.v.length ∧ m.v.length = n.v ∧ ∃ r : L, r.v = write l.v off.v m.v ∧ (T.prop P G B Q (K r)) := by
  unfold writeL at h
  obtain ⟨h1, h⟩ := fitL_inv h
  refine ⟨h1, ?_⟩
  split at h
  · split at h
    · rename_i q; rw [lenLit_eq] at q; exact ⟨q, _, rfl, h⟩
    · exact h.elim
  · exact ⟨of_decide_eq_true h.1, h.2⟩
theorem arithT_inv {op k a b K} (h : (T.prop P G B Q (arithT op k a b K))) : ∃ r : I, r.v = arith op k a.v b.v ∧ (T.prop P G B Q (K (.int k r))) := by
  unfold arithT at h
  split at h
  · exact ⟨_, rfl, h⟩
  · exact h
theorem cmpT_inv {p l K} (h : (T.prop P G B Q (cmpT p l K))) : (T.prop P G B Q (K (.bool (p ())))) := by
  unfold cmpT at h
  split at h
  · cases hp : p () <;> simpa [hp] using h
  · cases hp : p ()
    · exact h.2 hp
    · exact h.1 hp
theorem reqB_inv {p l K} (h : (T.prop P G B Q (reqB p l K))) : p () = true ∧ (T.prop P G B Q (K ())) := by
  unfold reqB at h
  split at h
  · split at h
    · exact ⟨by assumption, h⟩
    · exact h.elim
  · exact h
theorem strCat_inv {a b K} (h : (T.prop P G B Q (strCat a b K))) : ∃ r : S, r.v = a.v ++ b.v ∧ (T.prop P G B Q (K r)) := by
  unfold strCat at h
  split at h
  · exact ⟨_, rfl, h⟩
  · exact h
theorem len_inv {s : S} {K} (h : (T.prop P G B Q (s.len K))) : ∃ r : N, r.v = s.v.length ∧ (T.prop P G B Q (K r)) := by
  unfold S.len at h
  split at h
  · exact ⟨_, rfl, h⟩
  · exact h
theorem get_inv {s : S} {j K} (h : (T.prop P G B Q (s.get j K))) : ∃ r : I, r.v = (s.v.getD j.v 0).toNat ∧ (T.prop P G B Q (K r)) := by
  unfold S.get at h
  split at h
  · exact ⟨_, rfl, h⟩
  · exact h
theorem sub_inv {s : S} {l n K} (h : (T.prop P G B Q (s.sub l n K))) : ∃ r : S, r.v = (s.v.drop l.v).take n.v ∧ (T.prop P G B Q (K r)) := by
  unfold S.sub at h
  split at h
  · exact ⟨_, rfl, h⟩
  · exact h
theorem byteL_inv {s : S} {K} (h : (T.prop P G B Q (byteL s K))) : ∃ r : L, r.v = byteCells s.v ∧ (T.prop P G B Q (K r)) := by
  unfold byteL at h
  split at h
  · exact ⟨_, rfl, h⟩
  · exact h
theorem repL_inv {n z K} (h : (T.prop P G B Q (repL n z K))) : ∃ r : L, r.v = listC n.v z ∧ (T.prop P G B Q (K r)) := by
  unfold repL at h
  split at h
  · exact ⟨_, rfl, h⟩
  · exact h
theorem roomN_inv {n b K} (h : (T.prop P G B Q (roomN n b K))) : n.v * b ≤ 140737488355328 ∧ (T.prop P G B Q (K ())) := by
  unfold roomN at h
  split at h
  · split at h
    · exact ⟨by assumption, h⟩
    · exact h.elim
  · exact ⟨of_decide_eq_true h.1, h.2⟩
theorem placeT_inv {i n off sz K} (h : (T.prop P G B Q (placeT i n off sz K))) : (0 ≤ i.v ∧ i.v < n.v) ∧ ∃ r : N, r.v = off.v + i.v.toNat * sz ∧ (T.prop P G B Q (K r)) := by
  unfold placeT at h
  obtain ⟨h1, h⟩ := ltI_inv h
  obtain ⟨j, hj, h⟩ := natI_inv h
  obtain ⟨m, hm, h⟩ := mulN_inv h
  obtain ⟨r, hr, h⟩ := addN_inv h
  exact ⟨h1, r, by rw [hr, hm, hj], h⟩
theorem spreadT_inv {i off sz K} : ∀ {m : Nat}, (T.prop P G B Q (spreadT i off sz K m)) → ∃ k : Nat, i.v = (k : Int) ∧ ∃ r : N, r.v = off.v + k * sz ∧ (T.prop P G B Q (K r))
  | 0, h => h.elim
  | k + 1, h => by
    unfold spreadT at h
    by_cases hk : i.v = (k : Int)
    · have h := h
      simp only [T.prop] at h
      rw [decide_eq_true hk] at h
      obtain ⟨r, hr, h⟩ := addN_inv (h.1 rfl)
      exact ⟨k, hk, r, hr, h⟩
    · simp only [T.prop] at h
      rw [decide_eq_false hk] at h
      exact spreadT_inv (h.2 rfl)
theorem placeX_inv {lit cells i n off sz K} (h : (T.prop P G B Q (placeX lit cells i n off sz K))) : (0 ≤ i.v ∧ i.v < n.v) ∧ ∃ r : N, r.v = off.v + i.v.toNat * sz ∧ (T.prop P G B Q (K r)) := by
  unfold placeX at h
  split at h
  · obtain ⟨h1, h⟩ := ltI_inv h
    obtain ⟨k, hk, r, hr, h⟩ := spreadT_inv h
    refine ⟨h1, r, ?_, h⟩
    rw [hr, hk]; simp
  · exact placeT_inv h
def HiIs : Option I → Nat → Nat → Prop
  | some i, u, _ => 0 ≤ i.v ∧ i.v.toNat = u
  | none, u, len => u = len
def LoIs : Option I → Nat → Prop
  | some i, l => 0 ≤ i.v ∧ i.v.toNat = l
  | none, l => l = 0
theorem boundsT_inv {y len lo hi K} (h : (T.prop P G B Q (boundsT y len lo hi K))) (hl : len.v ≤ y.v) : ∃ l u : N, l.v ≤ u.v ∧ u.v ≤ y.v ∧ HiIs hi u.v len.v ∧ LoIs lo l.v ∧ (T.prop P G B Q (K l u)) := by
  unfold boundsT at h
  split at h
  · exact ⟨.lit 0, len, Nat.zero_le _, hl, rfl, rfl, h⟩
  · obtain ⟨⟨h1, h2⟩, h⟩ := leI_inv h
    obtain ⟨j, hj, h⟩ := natI_inv h
    exact ⟨.lit 0, j, Nat.zero_le _, by omega, ⟨h1, hj.symm⟩, rfl, h⟩
  · obtain ⟨⟨h1, h2⟩, h⟩ := leI_inv h
    obtain ⟨j, hj, h⟩ := natI_inv h
    exact ⟨_, _, by omega, hl, rfl, ⟨h1, hj.symm⟩, h⟩
  · obtain ⟨⟨h1, h2⟩, h⟩ := leI_inv h
    obtain ⟨j, hj, h⟩ := natI_inv h
    obtain ⟨⟨h3, h4⟩, h⟩ := leI_inv h
    obtain ⟨j', hj', h⟩ := natI_inv h
    exact ⟨_, _, by omega, by omega, ⟨h1, hj.symm⟩, ⟨h3, hj'.symm⟩, h⟩
theorem idxsT_inv : ∀ {tks : List TK} {l : Unit → List AV} {K : List AV → T}, (T.prop P G B Q (idxsT tks l K)) → ∃ ys, ys.length = tks.length ∧ ys.length ≤ (l ()).length ∧ (∀ (i : Nat) (x y : AV), (l ())[i]? = some x → ys[i]? = some y → VLe x y) ∧ (T.prop P G B Q (K ys))
  | [], l, K, h => ⟨[], rfl, Nat.zero_le _, fun i x y _ q => by simp at q, h⟩
  | tk :: tks, l, K, h => by
    obtain ⟨x, y, h1, h2, h⟩ := h
    obtain ⟨ys, k1, k2, k3, k4⟩ := idxsT_inv (tks := tks) h
    have h1 : (l ())[0]? = some x := h1
    have hl := (List.getElem?_eq_some_iff.1 h1).1
    refine ⟨y :: ys, by simp [k1], by simp at k2 ⊢; omega, fun i a b p q => ?_, k4⟩
    cases i with
    | zero => simp at q; subst q; rw [h1] at p; cases p; exact h2
    | succ i => simp at q; exact k3 i a b (by rw [List.getElem?_drop, Nat.add_comm]; exact p) q
theorem partT_inv {τ : Tys} {t cells off K} (h : (T.prop P G B Q (partT τ t cells off K))) : ∃ ti, τ t = some ti ∧
    ((ti.kind.isAgg = true ∧ off.v + ti.size ≤ cells.v.length ∧ ∃ (b : Bool) (ys : List AV), ys.length = ti.size ∧ (∀ (i : Nat) (x y : AV), cells.v[off.v + i]? = some x → ys[i]? = some y → VLe x y) ∧ (T.prop P G B Q (K (.agg b ys)))) ∨
      (ti.kind.isAgg = false ∧ ∃ x y, cells.v[off.v]? = some x ∧ VLe x y ∧ (T.prop P G B Q (K y)))) := by
  unfold partT at h
  split at h
  · rename_i ti hti
    refine ⟨ti, hti, ?_⟩
    split at h
    · rename_i hk
      refine .inl ⟨hk, ?_⟩
      split at h
      · rename_i hc
        simp only [Bool.and_eq_true, decide_eq_true_eq] at hc
        obtain ⟨ys, k1, k2, k3, k4⟩ := idxsT_inv h
        rw [List.length_drop] at k2
        exact ⟨by omega, true, ys, by omega, fun i x y p q => k3 i x y (by rw [List.getElem?_drop]; exact p) q, k4⟩
      · obtain ⟨h1, r, hr, h⟩ := subL_inv h
        have h1' : off.v + ti.size ≤ cells.v.length := h1
        refine ⟨h1, r.lit, r.v, by rw [hr, List.length_take, List.length_drop]; show min ti.size _ = _; omega, fun i x y p q => ?_, h⟩
        rw [hr, List.getElem?_take] at q
        split at q
        · rw [List.getElem?_drop] at q; rw [p] at q; cases q; exact VLe.refl _
        · cases q
    · rename_i hk
      obtain ⟨x, y, hx, hy, h⟩ := getL_inv h
      exact .inr ⟨by simpa using hk, x, y, hx, hy, h⟩
  · exact h.elim
/-- States that look the same. -/
structure St.Alike (s s' : St) : Prop where
  nt : s'.nt = s.nt
  heap : s'.heap = s.heap
  next : s'.next = s.next
  look : ∀ t, look s'.tmps t = look s.tmps t
theorem St.Alike.refl (s : St) : s.Alike s := ⟨rfl, rfl, rfl, fun _ => rfl⟩
theorem St.Alike.put {s : St} {d : Nat} {x : AV} (h : Ax.look s.tmps d = some x) : s.Alike (s.put (some d) x) := by
  refine ⟨rfl, rfl, rfl, fun t => ?_⟩
  show Ax.look ((d, x) :: s.tmps) t = _
  rw [Ax.look]
  split
  · rename_i e; subst e; exact h.symm
  · rfl
theorem ifGuard_inv {all o s yes no} (h : (T.prop P G B Q (ifGuard all o s yes no))) : ∃ s' : St, s.Alike s' ∧ ((guardT all o s = some true ∧ (T.prop P G B Q (yes s'))) ∨ (guardT all o s = some false ∧ (T.prop P G B Q (no s')))) := by
  unfold ifGuard at h
  split at h
  · rename_i hg
    exact ⟨s, .refl s, .inl ⟨by unfold guardT; simp [hg], h⟩⟩
  · rename_i j want hg
    split at h
    · rename_i oj hj
      split at h
      · rename_i d hd
        split at h
        · rename_i b hb
          have key : ∀ r, b = r → guardT all o s = some (r == want) := by
            intro r e; subst e; unfold guardT; simp [hg, hj, hd, hb]
          cases b with
          | true =>
            have h := h.1 rfl
            dsimp only at h
            refine ⟨_, .put hb, ?_⟩
            cases want
            · exact .inr ⟨key _ rfl, h⟩
            · exact .inl ⟨key _ rfl, h⟩
          | false =>
            have h := h.2 rfl
            dsimp only at h
            refine ⟨_, .put hb, ?_⟩
            cases want
            · exact .inl ⟨key _ rfl, h⟩
            · exact .inr ⟨key _ rfl, h⟩
        · rename_i hb
          exact ⟨s, .refl s, .inr ⟨by unfold guardT; simp [hg, hj, hd, hb], h⟩⟩
        · exact h.elim
      · exact h.elim
    · exact h.elim
theorem heapT_inv {H id K} (h : (T.prop P G B Q (heapT H id K))) : ∃ b, look H id = some (some b) ∧ (T.prop P G B Q (K b)) := by
  unfold heapT at h
  split at h
  · exact ⟨_, by assumption, h⟩
  · exact h.elim
end
end Go.Ax
