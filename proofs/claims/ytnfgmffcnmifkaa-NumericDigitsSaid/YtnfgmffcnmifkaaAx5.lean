/-
  The small abstract machine: operations that leave the memory as it is.
-/
import Derived.Test.YtnfgmffcnmifkaaAx4
import Derived.Laws.Append
import Derived.Laws.Rows
namespace Go.Ax
open Go.RowKit
set_option linter.unusedVariables false

/-- The kinds are the program's. -/
def kindOk : TK → TypeDesc → Prop
  | .plain, d => ∀ fs, d ≠ .struct fs ∧ ∀ n e, d ≠ .array n e
  | .int k, d => d = .int k
  | .bool, d => d = .bool
  | .string, d => d = .string
  | .iface, d => ∃ ms, d = .interface ms
  | .ptr e, d => d = .pointer e
  | .func, d => ∃ a b c, d = .func a b c
  | .slice e, d => d = .slice e
  | .map k e, d => d = .map k e
  | .array n e, d => d = .array n e
  | .struct fs, d => ∃ fields : Array Field, d = .struct fields ∧ fields.toList.map (fun f => (f.offset, f.type)) = fs

structure TIok (P : Program) (t : Nat) (ti : TI) : Prop where
  ex : ∃ (i : TypeInfo) (z : Value) (d : TypeDesc), P.info? t = some i ∧ P.underlying t = some d ∧ i.size = ti.size ∧ i.bytes = ti.bytes ∧ i.zero = some z ∧ kindOk ti.kind d ∧
    (∀ ms, d = .interface ms → ti.kind = .iface) ∧ z.cells.size = ti.size ∧ (∀ Sh W ρ, VRL Sh W ρ ti.zero z.cells.toList) ∧ (∀ v ∈ z.cells.toList, v.oneCell' = true)

/-- What the own blocks hold. -/
def LR (Sh : Nat → Prop) (W : World) (ρ : Rho) (H : Heap) : Prop :=
  ∀ id l sh b, look H id = some (some ⟨l, sh⟩) → ρ id = some b → ∃ (cs : Array Value) (e : TypeId) (fr : Nat × Nat), W.heap[b]? = some (.cells cs e fr) ∧ l.v.length ≤ cs.size ∧
    (∀ (i : Nat) (x : AV) (v : Value), l.v[i]? = some x → cs[i]? = some v → VR Sh W ρ x v) ∧ (∀ (i : Nat) (v : Value), cs[i]? = some v → v.oneCell' = true)

section
variable {P : Program} {G : Nat → Option (List AV)} {B : Nat} {Q : Ex → St → Prop} {τ : Tys} {Sh : Nat → Prop} {W : World} {ρ : Rho}

theorem HRel.lr {W0 S0 H n} (h : HRel G W0 S0 Sh ρ H n W) : LR Sh W ρ H := fun id l sh b q r => by
  obtain ⟨cs, e, fr, h1, h2, h3, h4, h5, h6⟩ := h.blk id l sh b q r
  exact ⟨cs, e, fr, h2, h3, h4, h5⟩

theorem ofV0_sound {v x} (h : ofV0 v = some x) : VR Sh W ρ x v ∧ v.oneCell' = true := by
  unfold ofV0 at h
  split at h <;> try cases h
  · exact ⟨.bool, rfl⟩
  · exact ⟨.int rfl, rfl⟩
  · exact ⟨.str rfl, rfl⟩
  · exact ⟨.nil, rfl⟩
  · exact ⟨.nilptr, rfl⟩
  · exact ⟨.nilFunc, rfl⟩
  · exact ⟨.nilIface, rfl⟩
  · split at h
    · rename_i f a b q
      cases h
      refine ⟨.func (by simp [q.1]) (fun i x v p _ => by simp at p) (by simp [q.2]) (fun i x v p _ => by simp at p), rfl⟩
    · cases h
theorem ofVs_sound : ∀ {vs xs}, ofVs vs = some xs → VRL Sh W ρ xs vs ∧ ∀ v ∈ vs, v.oneCell' = true
  | [], xs, h => by cases h; exact ⟨.nil, fun v h => by cases h⟩
  | v :: vs, xs, h => by
    unfold ofVs at h
    split at h
    · rename_i x ys h1 h2
      cases h
      obtain ⟨a, b⟩ := ofV0_sound (Sh := Sh) (W := W) (ρ := ρ) h1
      obtain ⟨c, d⟩ := ofVs_sound h2
      exact ⟨.cons a c, fun w hw => by cases hw with | head => exact b | tail _ hw => exact d w hw⟩
    · cases h
theorem VRL.of_array {l : List AV} {vs : Array Value} (h : VRL Sh W ρ l vs.toList) : vs.size = l.length ∧ ∀ (i : Nat) (x : AV) (v : Value), l[i]? = some x → vs[i]? = some v → VR Sh W ρ x v :=
  ⟨by simpa using h.1, fun i x v p q => h.2 i x v p (by simpa using q)⟩
theorem VRL.to_array {l : List AV} {vs : Array Value} (hl : vs.size = l.length) (h : ∀ (i : Nat) (x : AV) (v : Value), l[i]? = some x → vs[i]? = some v → VR Sh W ρ x v) : VRL Sh W ρ l vs.toList :=
  ⟨by simpa using hl, fun i x v p q => h i x v p (by simpa using q)⟩
theorem VR.aggL {b l} {vs : Array Value} (h : VRL Sh W ρ l vs.toList) (h1 : ∀ v ∈ vs.toList, v.oneCell' = true) : VR Sh W ρ (.agg b l) (.agg vs) :=
  .agg h.of_array.1 h.of_array.2 fun i v q => h1 v (List.mem_of_getElem? (i := i) (by simpa using q))
theorem ofV_sound {v x} (h : ofV v = some x) : VR Sh W ρ x v := by
  unfold ofV at h
  split at h
  · rename_i cs
    cases hq : ofVs cs.toList with
    | none => simp [hq] at h
    | some xs =>
      simp [hq] at h
      subst h
      obtain ⟨a, b⟩ := ofVs_sound (Sh := Sh) (W := W) (ρ := ρ) hq
      exact .aggL a b
  · exact (ofV0_sound h).1

theorem ev_sound {s : St} {a : Act} {nt : Nat} (hG : GR G Sh W) (ht : TR Sh W ρ nt s.tmps a.tmps) {x : Operand} {v : AV} (h : s.ev G x = some v) : VR Sh W ρ v (a.eval x) := by
  cases x with
  | tmp t =>
    obtain ⟨v', h1, h2⟩ := ht.2 t v h
    have : a.eval (.tmp t) = v' := by simp [Act.eval, Array.getD_eq_getD_getElem?, h1]
    rw [this]; exact h2
  | const c => exact ofV_sound h
  | global g =>
    simp only [St.ev, Option.map_eq_some_iff] at h
    obtain ⟨c, h1, rfl⟩ := h
    exact (hG g c h1).1.of_none ρ
  | func f => cases h; exact .func rfl (fun i x v p _ => by simp at p) rfl (fun i x v p _ => by simp at p)
theorem evs_sound {s : St} {a : Act} {nt : Nat} (hG : GR G Sh W) (ht : TR Sh W ρ nt s.tmps a.tmps) : ∀ {l : List Operand} {vs : List AV}, s.evs G l = some vs → VRL Sh W ρ vs (l.map a.eval)
  | [], vs, h => by cases h; exact .nil
  | x :: l, vs, h => by
    unfold St.evs at h
    split at h
    · rename_i v ws h1 h2
      cases h
      exact .cons (ev_sound hG ht h1) (evs_sound hG ht h2)
    · cases h

/-- The claim for an operation that leaves the memory as it is. -/
def ValOk (P : Program) (G : Nat → Option (List AV)) (o : Oper) (s : St) (x : AV) : Prop :=
  ∀ Sh W ρ nt (a : Act), GR G Sh W → LR Sh W ρ s.heap → TR Sh W ρ nt s.tmps a.tmps → ∃ v, (execOp a.eval o).run P W = .ok (.value v) W ∧ VR Sh W ρ x v

theorem kindAgg {k : TK} {d : TypeDesc} (h : kindOk k d) : k.isAgg = true → (∃ fs, d = .struct fs) ∨ ∃ n e, d = .array n e := by
  intro hk
  cases k <;> simp [TK.isAgg] at hk
  · exact .inr ⟨_, _, h⟩
  · obtain ⟨f, h, _⟩ := h; exact .inl ⟨_, h⟩
theorem kindNot {k : TK} {d : TypeDesc} (h : kindOk k d) (hk : k.isAgg = false) : (∀ fs, d ≠ .struct fs) ∧ ∀ n e, d ≠ .array n e := by
  cases k <;> simp only [TK.isAgg] at hk <;> simp only [kindOk] at h
  case plain => exact ⟨fun fs => (h fs).1, (h #[]).2⟩
  case iface => obtain ⟨ms, rfl⟩ := h; exact ⟨fun _ e => (by cases e), fun _ _ e => (by cases e)⟩
  case func => obtain ⟨a, b, c, rfl⟩ := h; exact ⟨fun _ e => (by cases e), fun _ _ e => (by cases e)⟩
  case array => cases hk
  case struct => cases hk
  all_goals (subst h; exact ⟨fun _ e => (by cases e), fun _ _ e => (by cases e)⟩)

theorem run_isAgg {t ti} (h : TIok P t ti) (w : World) : (isAgg t).run P w = .ok ti.kind.isAgg w := by
  obtain ⟨i, z, d, h1, h2, h3, h4, h5, h6, _⟩ := h.ex
  cases hk : ti.kind.isAgg with
  | true =>
    rcases kindAgg h6 hk with ⟨fs, rfl⟩ | ⟨n, e, rfl⟩ <;> simp [isAgg, run_underlying h2]
  | false =>
    obtain ⟨a, b⟩ := kindNot h6 hk
    simp only [isAgg, Sem.run_bind, run_underlying h2, Result.andThen_ok]
    rfl
theorem run_size {t ti} (h : TIok P t ti) (w : World) : (Go.sizeOf t).run P w = .ok ti.size w := by
  obtain ⟨i, z, d, h1, h2, h3, h4, h5, h6, _⟩ := h.ex
  simp [Go.sizeOf, typeInfo, h1, h3]

/-- A part of an aggregate. -/
theorem part_sound (hτ : ∀ t ti, τ t = some ti → TIok P t ti) {t cells off K} (h : (T.prop P G B Q (partT τ t cells off K))) : ∃ x, (T.prop P G B Q (K x)) ∧ ∀ Sh W ρ (vs : Array Value),
    (∀ (i : Nat) (x : AV) (v : Value), cells.v[i]? = some x → vs[i]? = some v → VR Sh W ρ x v) → cells.v.length ≤ vs.size → (∀ (i : Nat) (v : Value), vs[i]? = some v → v.oneCell' = true) → ∃ v, (part t vs off.v).run P W = .ok v W ∧ VR Sh W ρ x v := by
  obtain ⟨ti, hti, ⟨hk, h1, r, ys, hy1, hy2, h⟩ | ⟨hk, x, y, hx, hy, h⟩⟩ := partT_inv h
  · refine ⟨_, h, fun Sh W ρ vs hv hl hone => ⟨.agg (vs.extract off.v (off.v + ti.size)), ?_, ?_⟩⟩
    · simp [part, run_isAgg (hτ t ti hti), hk, run_size (hτ t ti hti)]
    · refine .agg ?_ ?_ ?_
      · simp [hy1]; omega
      · intro i y v p q
        rw [Array.getElem?_extract] at q
        split at q
        · have hi := (List.getElem?_eq_some_iff.1 p).1
          have hx : cells.v[off.v + i]? = some (cells.v[off.v + i]'(by omega)) := List.getElem?_eq_getElem _
          exact hy2 i _ y hx p _ _ _ _ (hv (off.v + i) _ v hx q)
        · cases q
      · intro i v q
        rw [Array.getElem?_extract] at q
        split at q
        · exact hone _ v q
        · cases q
  · refine ⟨y, h, fun Sh W ρ vs hv hl hone => ?_⟩
    have hlt := (List.getElem?_eq_some_iff.1 hx).1
    have hq : vs[off.v]? = some (vs[off.v]'(by omega)) := Array.getElem?_eq_getElem _
    exact ⟨_, by simp [part, run_isAgg (hτ t ti hti), hk, hq], hy _ _ _ _ (hv _ _ _ hx hq)⟩

theorem Addr.add_lit' (b o n : Nat) : (⟨b, o, none⟩ : Addr).add n = ⟨b, o + n, none⟩ := by
  unfold Addr.add; split <;> simp_all

/-- A load. -/
theorem load_sound (hτ : ∀ t ti, τ t = some ti → TIok P t ti) {H t x K} (h : (T.prop P G B Q (loadT τ H t x K))) : ∃ y, (T.prop P G B Q (K y)) ∧ ∀ Sh W ρ v, LR Sh W ρ H → VR Sh W ρ x v → ∃ v', (Instr.loadAt t v).run P W = .ok v' W ∧ VR Sh W ρ y v' := by
  -- a load out of cells that are known
  have key : ∀ {cells : L} {off : N}, (T.prop P G B Q (partT τ t cells off K)) → ∃ y, (T.prop P G B Q (K y)) ∧ ∀ Sh W ρ (b o : Nat) (vs : List Value), VRL Sh W ρ cells.v vs → (∀ (i : Nat) (v : Value), vs[i]? = some v → W.cell? ⟨b, o + i, none⟩ = some v) →
      (∀ v ∈ vs, v.oneCell' = true) → ∃ v', (loadVar t ⟨b, o + off.v, none⟩).run P W = .ok v' W ∧ VR Sh W ρ y v' := by
    intro cells off h
    obtain ⟨ti, hti, ⟨hk, h1, r, ys, hy1, hy2, h⟩ | ⟨hk, x, y, hx, hy, h⟩⟩ := partT_inv h
    · refine ⟨_, h, fun Sh W ρ b o vs hv hc hone => ⟨.agg ((vs.drop off.v).take ti.size).toArray, ?_, ?_⟩⟩
      · have hlen : ((vs.drop off.v).take ti.size).length = ti.size := by have := hv.1; simp; omega
        have hl := run_loadCells_list (P := P) (w := W) (⟨b, o + off.v, none⟩ : Addr) ((vs.drop off.v).take ti.size) (by
          intro j v q
          rw [Addr.add_lit', Nat.add_assoc]
          refine hc (off.v + j) v ?_
          rw [List.getElem?_take] at q
          split at q
          · simpa using q
          · cases q)
        rw [hlen] at hl
        simp [loadVar, run_isAgg (hτ t ti hti), hk, run_size (hτ t ti hti), hl]
      · refine .aggL ?_ ?_
        · refine ⟨by have := hv.1; simp; omega, fun i y v p q => ?_⟩
          have hi := (List.getElem?_eq_some_iff.1 p).1
          have hx : cells.v[off.v + i]? = some (cells.v[off.v + i]'(by omega)) := List.getElem?_eq_getElem _
          have q : ((vs.drop off.v).take ti.size)[i]? = some v := by simpa using q
          rw [List.getElem?_take] at q
          split at q
          · exact hy2 i _ y hx p _ _ _ _ (hv.2 (off.v + i) _ v hx (by simpa using q))
          · cases q
        · intro v hm
          exact hone v (List.mem_of_mem_drop (List.mem_of_mem_take (by simpa using hm)))
    · refine ⟨y, h, fun Sh W ρ b o vs hv hc hone => ?_⟩
      have hlt := (List.getElem?_eq_some_iff.1 hx).1
      have hq : vs[off.v]? = some (vs[off.v]'(by have := hv.1; omega)) := List.getElem?_eq_getElem _
      refine ⟨_, ?_, hy _ _ _ _ (hv.2 _ _ _ hx hq)⟩
      simp [loadVar, run_isAgg (hτ t ti hti), hk, load, Sem.run, hc _ _ hq]
  unfold loadT at h
  split at h
  · rename_i id off
    obtain ⟨⟨l, sh⟩, hb, h⟩ := heapT_inv h
    obtain ⟨y, hy, hk⟩ := key h
    refine ⟨y, hy, fun Sh W ρ v hL hv => ?_⟩
    cases hv with
    | @ptr _ _ _ b o hr ho =>
      obtain ⟨cs, e, fr, h2, h3, h4, h5⟩ := hL id l sh b hb hr
      obtain ⟨v', r1, r2⟩ := hk Sh W ρ b 0 (cs.toList.take l.v.length) ⟨by simp; omega, fun i x v p q => by
          rw [List.getElem?_take] at q
          split at q
          · exact h4 i x v p (by simpa using q)
          · cases q⟩ (fun i v q => by
          rw [List.getElem?_take] at q
          split at q
          · rw [Nat.zero_add, cell_of_row h2]; simpa using q
          · cases q) (fun v hm => by
          obtain ⟨i, hi⟩ := List.mem_iff_getElem?.1 (List.mem_of_mem_take hm)
          exact h5 i v (by simpa using hi))
      refine ⟨v', ?_, r2⟩
      simpa [Instr.loadAt, Instr.sureAddr, ← ho] using r1
  · rename_i lit cells off
    obtain ⟨y, hy, hk⟩ := key h
    refine ⟨y, hy, fun Sh W ρ v hL hv => ?_⟩
    cases hv with
    | @ref _ _ _ _ a vs hsp hS ho hl hc hv h1 =>
      obtain ⟨ab, ao, asp⟩ := a
      dsimp only at hsp ho hc
      subst hsp
      obtain ⟨v', r1, r2⟩ := hk Sh W (fun _ => none) ab (ao - off.v) vs ⟨hl, hv⟩ hc h1
      refine ⟨v', ?_, r2.of_none ρ⟩
      rw [show ao - off.v + off.v = ao by omega] at r1
      simpa [Instr.loadAt, Instr.sureAddr] using r1
  · exact h.elim
end
end Go.Ax
