/-
  The small abstract machine: operations that make memory, and that write.
-/
import Derived.Test.YtcohbcdhcmajiaaDoorAx10
import Derived.Laws.CopyRow
import Derived.Laws.IdiomCopy
namespace Go.Ax
open Go.RowKit
set_option linter.unusedVariables false

/-- A world in which nothing but one block has turned. -/
structure Wrote (W W' : World) (b : Nat) : Prop where
  os : W'.os = W.os
  tape : W'.tape = W.tape
  output : W'.output = W.output
  size : W'.heap.size = W.heap.size
  block : ∀ k, k ≠ b → W'.heap[k]? = W.heap[k]?

theorem look_upd {H : Heap} {id : Nat} {x : Option Blk} {y} (h : look H id = some y) (k : Nat) : look (updH H id x) k = if k = id then some x else look H k := by
  induction H with
  | nil => cases h
  | cons p l ih =>
    obtain ⟨j, c⟩ := p
    unfold look at h
    by_cases hj : j = id
    · subst hj
      unfold updH
      rw [if_pos rfl]
      unfold look
      by_cases hk : k = j
      · subst hk; simp
      · simp [show ¬ j = k from fun e => hk e.symm, hk]
    · rw [if_neg hj] at h
      unfold updH
      rw [if_neg hj]
      unfold look
      by_cases hk : j = k
      · subst hk; rw [if_pos rfl, if_neg hj, if_pos rfl]
      · rw [if_neg hk, if_neg hk]; exact ih h

section
variable {P : Program} {G : Nat → Option (List AV)} {B : Nat} {Q : Ex → St → Prop} {τ : Tys}

theorem run_storeBlk (b o : Nat) (e : TypeId) (fr : Nat × Nat) : ∀ (vs : List Value) (i : Nat) (W : World) (cs : Array Value), W.heap[b]? = some (.cells cs e fr) → o + i + vs.length ≤ cs.size →
    (∀ k, k < cs.size → ¬ (fr.1 ≤ k ∧ k < fr.2)) → (∀ v ∈ vs, v.oneCell' = true) →
    ∃ W' cs', (storeCells ⟨b, o, none⟩ vs i).run P W = .ok () W' ∧ Wrote W W' b ∧ W'.heap[b]? = some (.cells cs' e fr) ∧ cs'.toList = write cs.toList (o + i) vs
  | [], i, W, cs, h, hl, hf, h1 => ⟨W, cs, rfl, ⟨rfl, rfl, rfl, rfl, fun _ _ => rfl⟩, h, by simp [write]⟩
  | v :: vs, i, W, cs, h, hl, hf, h1 => by
    simp only [List.length_cons] at hl
    have hlt : b < W.heap.size := (Array.getElem?_eq_some_iff.1 h).1
    have hst : (store ((⟨b, o, none⟩ : Addr).add i) v).run P W = .ok () (W.setCell ⟨b, o + i, none⟩ v) := by
      rw [Addr.add_lit', run_store P W _ v _ (h1 v (List.mem_cons_self ..))]
      have hc : W.cell? ⟨b, o + i, none⟩ = some (cs[o + i]'(by omega)) := by rw [cell_of_row h, Array.getElem?_eq_getElem]
      have hz : W.frozen? ⟨b, o + i, none⟩ = false := by
        unfold World.frozen?
        simp only [h]
        have := hf (o + i) (by omega)
        simp only [Bool.and_eq_false_iff, decide_eq_false_iff_not]
        rcases Nat.lt_or_ge (o + i) fr.1 with hh | hh
        · exact .inl (by omega)
        · exact .inr (fun q => this ⟨hh, q⟩)
      simp [hc, hz]
    have hb' : (W.setCell ⟨b, o + i, none⟩ v).heap[b]? = some (.cells (cs.setIfInBounds (o + i) v) e fr) := by
      simp only [World.setCell, Array.getElem?_modify, if_true]
      rw [h]; simp
    obtain ⟨W', cs', r1, r2, r3, r4⟩ := run_storeBlk b o e fr vs (i + 1) (W.setCell ⟨b, o + i, none⟩ v) (cs.setIfInBounds (o + i) v) hb' (by simp; omega) (by simpa using hf) (fun w hw => h1 w (List.mem_cons_of_mem _ hw))
    refine ⟨W', cs', ?_, ⟨r2.os, r2.tape, r2.output, by rw [r2.size]; simp [World.setCell], fun k hk => ?_⟩, r3, ?_⟩
    · rw [storeCells, Sem.run_bind, hst]; exact r1
    · rw [r2.block k hk]
      simp only [World.setCell, Array.getElem?_modify]
      rw [if_neg (fun e => hk e.symm)]
    · rw [r4, Array.toList_setIfInBounds, ← Nat.add_assoc, write_cons _ _ _ _ (by simp; omega)]

variable {W0 : World} {S0 Sh : Nat → Prop} {ρ : Rho} {H : Heap} {n : Nat} {W : World}

/-- A block that is written. -/
theorem HRel.write (h : HRel G W0 S0 Sh ρ H n W) {id : Nat} {l l' : L} {b : Nat} (hb : look H id = some (some ⟨l, false⟩)) (hr : ρ id = some b) {W' : World} (hw : Wrote W W' b) {cs cs' : Array Value} {e : TypeId} {fr : Nat × Nat}
    (h1 : W.heap[b]? = some (.cells cs e fr)) (h2 : W'.heap[b]? = some (.cells cs' e fr)) (h3 : cs'.size = cs.size) (h4 : l'.v.length ≤ cs'.size)
    (h5 : ∀ (i : Nat) (x : AV) (v : Value), l'.v[i]? = some x → cs'[i]? = some v → VR Sh W ρ x v) (h6 : ∀ (i : Nat) (v : Value), cs'[i]? = some v → v.oneCell' = true) :
    Ext Sh ρ W Sh ρ W' ∧ HRel G W0 S0 Sh ρ (updH H id (some ⟨l', false⟩)) n W' := by
  obtain ⟨cs0, e0, fr0, q1, q2, q3, q4, q5, q6, q7⟩ := h.blk id l false b hb hr
  obtain ⟨q7, q8⟩ := q7 rfl
  have eq0 : cs0 = cs ∧ e0 = e ∧ fr0 = fr := by rw [q2] at h1; cases h1; exact ⟨rfl, rfl, rfl⟩
  obtain ⟨rfl, rfl, rfl⟩ := eq0
  have ext : Ext Sh ρ W Sh ρ W' := ⟨fun _ h => h, fun _ _ h => h, fun k hk => hw.block k (fun q => q7 (q ▸ hk)), fun k c e' f q => by
    by_cases hk : k = b
    · subst hk; rw [q2] at q; cases q; exact ⟨cs', fr0, h2, h3⟩
    · exact ⟨c, f, by rw [hw.block k hk]; exact q, rfl⟩⟩
  refine ⟨ext, ⟨?_, ?_, ?_, h.fresh, fun k hk => by rw [hw.size]; exact h.slt k hk, h.grow, h.glob.mono (fun _ h => h) ext.keep, fun id' x q => by
    rw [look_upd hb] at q
    by_cases e : id' = id
    · subst e; exact h.dom _ _ hb
    · rw [if_neg e] at q; exact h.dom _ _ q⟩⟩
  · exact ⟨hw.os.trans h.below.os, hw.tape.trans h.below.tape, hw.output.trans h.below.output, by rw [hw.size]; exact h.below.size, fun k hk => by rw [hw.block k (by omega)]; exact h.below.block k hk⟩
  · intro id' l2 sh2 b2 hl2 hr2
    rw [look_upd hb] at hl2
    by_cases hid : id' = id
    · subst hid
      rw [if_pos rfl] at hl2
      cases hl2
      rw [hr] at hr2; cases hr2
      exact ⟨cs', e0, fr0, q1, h2, h4, fun i x v p q => (h5 i x v p q).ext ext, h6, fun q => by (cases q), fun _ => ⟨q7, fun o ho => q8 o (by omega)⟩⟩
    · rw [if_neg hid] at hl2
      obtain ⟨c2, e2, f2, p1, p2, p3, p4, p5, p6, p7⟩ := h.blk id' l2 sh2 b2 hl2 hr2
      have hne : b2 ≠ b := fun q => hid ((h.inj id id' l _ b hb hl2 hr (q ▸ hr2)).symm)
      exact ⟨c2, e2, f2, p1, by rw [hw.block b2 hne]; exact p2, p3, fun i x v p q => (p4 i x v p q).ext ext, p5, p6, p7⟩
  · intro i1 i2 l1 x1 b1 k1 k2 k3 k4
    rw [look_upd hb] at k1 k2
    by_cases e1 : i1 = id <;> by_cases e2 : i2 = id
    · rw [e1, e2]
    · subst e1
      rw [if_neg e2] at k2
      obtain ⟨lx, shx⟩ := x1
      exact h.inj i1 i2 l _ b1 hb k2 k3 k4
    · subst e2
      rw [if_neg e1] at k1
      exact h.inj i1 i2 l1 _ b1 k1 hb k3 k4
    · rw [if_neg e1] at k1
      rw [if_neg e2] at k2
      exact h.inj i1 i2 l1 x1 b1 k1 k2 k3 k4

/-- A block that is no longer used. -/
theorem HRel.kill (h : HRel G W0 S0 Sh ρ H n W) {id : Nat} {y} (hb : look H id = some y) : HRel G W0 S0 Sh ρ (updH H id none) n W := by
  refine ⟨h.below, ?_, ?_, h.fresh, h.slt, h.grow, h.glob, fun id' x q => by
    rw [look_upd hb] at q
    by_cases e : id' = id
    · subst e; exact h.dom _ _ hb
    · rw [if_neg e] at q; exact h.dom _ _ q⟩
  · intro id' l2 sh2 b2 hl2 hr2
    rw [look_upd hb] at hl2
    by_cases hid : id' = id
    · rw [if_pos hid] at hl2; cases hl2
    · rw [if_neg hid] at hl2; exact h.blk id' l2 sh2 b2 hl2 hr2
  · intro i1 i2 l1 x1 b1 k1 k2 k3 k4
    rw [look_upd hb] at k1 k2
    by_cases e1 : i1 = id
    · rw [if_pos e1] at k1; cases k1
    · by_cases e2 : i2 = id
      · rw [if_pos e2] at k2; cases k2
      · rw [if_neg e1] at k1; rw [if_neg e2] at k2; exact h.inj i1 i2 l1 x1 b1 k1 k2 k3 k4

/-- The own blocks, one more of them. -/
def Rho.add (ρ : Rho) (n b : Nat) : Rho := fun id => if id = n then some b else ρ id

/-- A new number for a block: a new one, or one that no other number stands for. -/
theorem HRel.name (h : HRel G W0 S0 Sh ρ H n W) {l : L} {b : Nat} {cs : Array Value} {e : TypeId} {fr : Nat × Nat} (hb0 : W0.heap.size ≤ b) (hb : W.heap[b]? = some (.cells cs e fr)) (hS : ¬ Sh b)
    (hl : l.v.length ≤ cs.size) (hv : ∀ (i : Nat) (x : AV) (v : Value), l.v[i]? = some x → cs[i]? = some v → VR Sh W ρ x v) (h1 : ∀ (i : Nat) (v : Value), cs[i]? = some v → v.oneCell' = true)
    (hf : ∀ o, o < cs.size → ¬ (fr.1 ≤ o ∧ o < fr.2)) (hu : ∀ id x, look H id = some (some x) → ρ id ≠ some b) :
    Ext Sh ρ W Sh (ρ.add n b) W ∧ HRel G W0 S0 Sh (ρ.add n b) ((n, some ⟨l, false⟩) :: H) (n + 1) W := by
  have hn := h.fresh n (Nat.le_refl _)
  have ext : Ext Sh ρ W Sh (ρ.add n b) W := ⟨fun _ h => h, fun id b' q => by
    unfold Rho.add
    rw [if_neg (fun e => by rw [e, hn] at q; cases q)]; exact q, fun _ _ => rfl, fun b cs e fr q => ⟨cs, fr, q, rfl⟩⟩
  refine ⟨ext, ⟨h.below, ?_, ?_, ?_, h.slt, h.grow, h.glob, fun id x q => by
    unfold look at q
    split at q
    · omega
    · exact Nat.lt_succ_of_lt (h.dom _ _ q)⟩⟩
  · intro id l2 sh2 b2 hl2 hr2
    unfold look at hl2
    by_cases hid : n = id
    · subst hid
      rw [if_pos rfl] at hl2
      cases hl2
      simp only [Rho.add, if_true, Option.some.injEq] at hr2
      subst hr2
      exact ⟨cs, e, fr, hb0, hb, hl, fun i x v p q => (hv i x v p q).ext ext, h1, fun q => by (cases q), fun _ => ⟨hS, hf⟩⟩
    · rw [if_neg hid] at hl2
      simp only [Rho.add, if_neg (fun e : id = n => hid e.symm)] at hr2
      obtain ⟨c2, e2, f2, p1, p2, p3, p4, p5, p6, p7⟩ := h.blk id l2 sh2 b2 hl2 hr2
      exact ⟨c2, e2, f2, p1, p2, p3, fun i x v p q => (p4 i x v p q).ext ext, p5, p6, p7⟩
  · intro i1 i2 l1 x1 b1 k1 k2 k3 k4
    unfold look at k1 k2
    by_cases e1 : n = i1 <;> by_cases e2 : n = i2
    · rw [← e1, ← e2]
    · rw [if_neg e2] at k2
      simp only [Rho.add, if_pos e1.symm, Option.some.injEq] at k3
      simp only [Rho.add, if_neg (fun e : i2 = n => e2 e.symm)] at k4
      subst k3
      exact absurd k4 (hu i2 x1 k2)
    · rw [if_neg e1] at k1
      simp only [Rho.add, if_pos e2.symm, Option.some.injEq] at k4
      simp only [Rho.add, if_neg (fun e : i1 = n => e1 e.symm)] at k3
      subst k4
      exact absurd k3 (hu i1 _ k1)
    · rw [if_neg e1] at k1
      rw [if_neg e2] at k2
      simp only [Rho.add, if_neg (fun e : i1 = n => e1 e.symm)] at k3
      simp only [Rho.add, if_neg (fun e : i2 = n => e2 e.symm)] at k4
      exact h.inj i1 i2 l1 x1 b1 k1 k2 k3 k4
  · intro id hid
    simp only [Rho.add, if_neg (show ¬ id = n by omega)]
    exact h.fresh id (by omega)

/-- A world with one block more. -/
structure Grew (W W' : World) (o : Obj) : Prop where
  os : W'.os = W.os
  tape : W'.tape = W.tape
  output : W'.output = W.output
  heap : W'.heap = W.heap.push o

theorem Grew.old {W W' : World} {o : Obj} (h : Grew W W' o) (k : Nat) (hk : k < W.heap.size) : W'.heap[k]? = W.heap[k]? := by
  rw [h.heap, Array.getElem?_push, if_neg (by omega)]
theorem Grew.new {W W' : World} {o : Obj} (h : Grew W W' o) : W'.heap[W.heap.size]? = some o := by
  rw [h.heap, Array.getElem?_push, if_pos rfl]

theorem HRel.grew (h : HRel G W0 S0 Sh ρ H n W) {W' : World} {o : Obj} (g : Grew W W' o) : Ext Sh ρ W Sh ρ W' ∧ HRel G W0 S0 Sh ρ H n W' := by
  have hb : Below W.heap.size W W' := ⟨g.os, g.tape, g.output, by rw [g.heap]; simp, fun k hk => g.old k hk⟩
  exact h.call hb (fun _ h => h) (fun _ h => .inl h) (fun b q => Nat.lt_of_lt_of_le (h.slt b q) hb.size)

/-- A new block. -/
theorem HRel.new (h : HRel G W0 S0 Sh ρ H n W) {W' : World} {l : L} {cs : Array Value} {e : TypeId} {fr : Nat × Nat} (g : Grew W W' (.cells cs e fr)) (hl : l.v.length ≤ cs.size)
    (hv : ∀ (i : Nat) (x : AV) (v : Value), l.v[i]? = some x → cs[i]? = some v → VR Sh W ρ x v) (h1 : ∀ (i : Nat) (v : Value), cs[i]? = some v → v.oneCell' = true) (hf : ∀ o, o < cs.size → ¬ (fr.1 ≤ o ∧ o < fr.2)) :
    Ext Sh ρ W Sh (ρ.add n W.heap.size) W' ∧ HRel G W0 S0 Sh (ρ.add n W.heap.size) ((n, some ⟨l, false⟩) :: H) (n + 1) W' := by
  obtain ⟨e1, h'⟩ := h.grew g
  obtain ⟨e2, h''⟩ := h'.name (l := l) h.below.size g.new (fun q => Nat.lt_irrefl _ (h.slt _ q)) hl (fun i x v p q => (hv i x v p q).ext e1) h1 hf (fun id x q r => by
    obtain ⟨lx, shx⟩ := x
    obtain ⟨c2, e2, f2, p1, p2, _⟩ := h.blk id lx shx _ q r
    exact Nat.lt_irrefl _ (Array.getElem?_eq_some_iff.1 p2).1)
  exact ⟨e1.trans e2, h''⟩
end
end Go.Ax
