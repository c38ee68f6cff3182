/-
  The small abstract machine: operations that leave the memory as it is.
-/
import Derived.Test.YtcohbcdhcmajiaaDoorAx4
import Derived.Laws.Append
import Derived.Laws.Rows
import Derived.Laws.StructEq
namespace Go.Ax
open Go.RowKit
set_option linter.unusedVariables false

/-- The kinds are the program's. -/
def kindOk : TK → TypeDesc → Prop
  | .plain, d => ∀ fs, d ≠ .struct fs ∧ ∀ n e, d ≠ .array n e
  | .int k, d => d = .int k
  | .bool, d => d = .bool
  | .string, d => d = .string
  | .iface, d => ∃ ms, d = .interface ms
  | .ptr e, d => d = .pointer e
  | .func, d => ∃ a b c, d = .func a b c
  | .slice e, d => d = .slice e
  | .map k e, d => d = .map k e
  | .array n e, d => d = .array n e
  | .struct fs, d => ∃ fields : Array Field, d = .struct fields ∧ fields.toList.map (fun f => (f.offset, f.type)) = fs

/-! Structs that can be compared. -/
def KV : TK → Value → Prop
  | .int k, v => ∃ n, v = .int k n
  | .bool, v => ∃ b, v = .bool b
  | .string, v => ∃ s, v = .string s
  | _, _ => False
def eqVal : Value → Value → Bool
  | .int _ a, .int _ b => a == b
  | .bool a, .bool b => a == b
  | .string a, .string b => a.toList == b.toList
  | _, _ => true
def eqVals : List Value → List Value → Bool
  | v :: vs, w :: ws => eqVal v w && eqVals vs ws
  | _, _ => true
def KVs (l : List TK) (vs : List Value) : Prop := vs.length = l.length ∧ ∀ (i : Nat) (tk : TK) (v : Value), l[i]? = some tk → vs[i]? = some v → KV tk v
def EqRun (P : Program) (n t : Nat) (l : List TK) : Prop :=
  ∀ (d : Nat) (W : World) (xs ys : Array Value), KVs l xs.toList → KVs l ys.toList → (Op.equalIn (d + n) t (.agg xs) (.agg ys)).run P W = .ok (eqVals xs.toList ys.toList) W
structure EqOk (P : Program) (t : Nat) (l : List TK) : Prop where
  run : ∃ n, n ≤ 10000 ∧ EqRun P n t l
  guard : P.eqGuardType P.depth t = false
/-- A part of a struct. -/
inductive EqTy (P : Program) (n : Nat) : Nat → List TK → Prop where
  | int {t k} (h : P.underlying t = some (.int k)) (ha : ∀ w, (isAgg t).run P w = .ok false w) : EqTy P n t [.int k]
  | bool {t} (h : P.underlying t = some .bool) (ha : ∀ w, (isAgg t).run P w = .ok false w) : EqTy P n t [.bool]
  | string {t} (h : P.underlying t = some .string) (ha : ∀ w, (isAgg t).run P w = .ok false w) : EqTy P n t [.string]
  | agg {t l} (h : EqRun P n t l) (ha : ∀ w, (isAgg t).run P w = .ok true w) (hs : ∀ w, (Go.sizeOf t).run P w = .ok l.length w) : EqTy P n t l
inductive EqFs (P : Program) (n : Nat) : Nat → List Field → List TK → Prop where
  | nil {o} : EqFs P n o [] []
  | cons {o f fs l l'} (hn : f.name ≠ "_") (ho : f.offset = o) (h : EqTy P n f.type l) (k : EqFs P n (o + l.length) fs l') : EqFs P n o (f :: fs) (l ++ l')
theorem eqVals_append : ∀ {a b c d : List Value}, a.length = c.length → eqVals (a ++ b) (c ++ d) = (eqVals a c && eqVals b d)
  | [], b, [], d, _ => by simp [eqVals]
  | x :: a, b, y :: c, d, h => by
    simp only [List.cons_append, eqVals, eqVals_append (a := a) (b := b) (c := c) (d := d) (by simpa using h), Bool.and_assoc]
  | [], _, _ :: _, _, h => by simp at h
  | _ :: _, _, [], _, h => by simp at h
theorem EqFs.run {P : Program} {n : Nat} {xs ys : Array Value} (hn : 1 ≤ n) : ∀ {o : Nat} {fs : List Field} {l : List TK}, EqFs P n o fs l → ∀ (d : Nat) (W : World), KVs l (xs.toList.drop o) → KVs l (ys.toList.drop o) →
    (Op.eqFields (d + n) xs ys fs).run P W = .ok (eqVals (xs.toList.drop o) (ys.toList.drop o)) W := by
  intro o fs l h
  induction h with
  | nil =>
    intro d W hx hy
    have e1 : xs.toList.drop _ = [] := List.eq_nil_of_length_eq_zero hx.1
    rw [e1]; simp [Op.eqFields, eqVals]
  | @cons o f fs l l' hnm ho h k ih =>
    intro d W hx hy
    subst ho
    have hxl := hx.1
    have hyl := hy.1
    rw [List.length_drop, List.length_append] at hxl hyl
    have hxl' : xs.toList.length = xs.size := Array.length_toList
    have hyl' : ys.toList.length = ys.size := Array.length_toList
    have rest : ∀ {zs : Array Value}, KVs (l ++ l') (zs.toList.drop f.offset) → KVs l' (zs.toList.drop (f.offset + l.length)) := by
      intro zs hz
      have hzl := hz.1
      rw [List.length_drop, List.length_append] at hzl
      refine ⟨by rw [List.length_drop]; omega, fun i tk v p q => hz.2 (l.length + i) tk v ?_ ?_⟩
      · rw [List.getElem?_append_right (by omega), Nat.add_sub_cancel_left]; exact p
      · rw [List.getElem?_drop] at q ⊢; rw [← q]; congr 1; omega
    have ih := ih d W (rest hx) (rest hy)
    have split : ∀ {zs : Array Value}, (zs.toList.drop f.offset) = ((zs.toList.drop f.offset).take l.length) ++ zs.toList.drop (f.offset + l.length) := by
      intro zs
      rw [← List.drop_drop, List.take_append_drop]
    have hev : eqVals (xs.toList.drop f.offset) (ys.toList.drop f.offset) = (eqVals ((xs.toList.drop f.offset).take l.length) ((ys.toList.drop f.offset).take l.length) && eqVals (xs.toList.drop (f.offset + l.length)) (ys.toList.drop (f.offset + l.length))) := by
      rw [split (zs := xs), split (zs := ys)]
      rw [← split (zs := xs), ← split (zs := ys)]
      conv => lhs; rw [split (zs := xs), split (zs := ys)]
      exact eqVals_append (by simp only [List.length_take, List.length_drop]; omega)
    have fin : ∀ (a b : Value), (part f.type xs f.offset).run P W = .ok a W → (part f.type ys f.offset).run P W = .ok b W → (Op.equalIn (d + n) f.type a b).run P W = .ok (eqVals ((xs.toList.drop f.offset).take l.length) ((ys.toList.drop f.offset).take l.length)) W →
        (Op.eqFields (d + n) xs ys (f :: fs)).run P W = .ok (eqVals (xs.toList.drop f.offset) (ys.toList.drop f.offset)) W := by
      intro a b h1 h2 h3
      unfold Op.eqFields
      rw [if_pos hnm]
      simp only [Sem.run_bind, h1, h2, h3, Result.andThen_ok]
      rw [hev]
      cases eqVals ((xs.toList.drop f.offset).take l.length) ((ys.toList.drop f.offset).take l.length) with
      | true => simp only [Bool.not_true, Bool.false_eq_true, if_false, Bool.true_and]; exact ih
      | false => simp only [Bool.not_false, if_true, Bool.false_and, Sem.run_pure]
    have one : ∀ {zs : Array Value} (tk : TK), l = [tk] → KVs (l ++ l') (zs.toList.drop f.offset) → (∀ w, (isAgg f.type).run P w = .ok false w) → ∃ v, KV tk v ∧ (part f.type zs f.offset).run P W = .ok v W ∧ (zs.toList.drop f.offset).take l.length = [v] := by
      intro zs tk hl hz ha
      subst hl
      have hzl := hz.1
      rw [List.length_drop, List.length_append] at hzl
      have hlt : f.offset < zs.toList.length := by simp at hzl ⊢; omega
      have hg : zs.toList[f.offset]? = some zs.toList[f.offset] := List.getElem?_eq_getElem hlt
      refine ⟨zs.toList[f.offset], hz.2 0 tk _ rfl (by rw [List.getElem?_drop, Nat.add_zero]; exact hg), ?_, ?_⟩
      · have hg' : zs[f.offset]? = some zs.toList[f.offset] := by rw [← Array.getElem?_toList]; exact hg
        unfold part
        simp only [Sem.run_bind, ha, Result.andThen_ok, Bool.false_eq_true, if_false, hg', Sem.run_pure]
      · rw [List.drop_eq_getElem_cons hlt]; rfl
    obtain ⟨m, rfl⟩ : ∃ m, n = m + 1 := ⟨n - 1, by omega⟩
    cases h with
    | int hu ha =>
      obtain ⟨a, ⟨i, rfl⟩, p1, e1⟩ := one (zs := xs) _ rfl hx ha
      obtain ⟨b, ⟨j, rfl⟩, p2, e2⟩ := one (zs := ys) _ rfl hy ha
      refine fin _ _ p1 p2 ?_
      rw [e1, e2, ← Nat.add_assoc, run_equalIn_int _ _ _ _ _ _ _ hu]; simp [eqVals, eqVal]
    | bool hu ha =>
      obtain ⟨a, ⟨i, rfl⟩, p1, e1⟩ := one (zs := xs) _ rfl hx ha
      obtain ⟨b, ⟨j, rfl⟩, p2, e2⟩ := one (zs := ys) _ rfl hy ha
      refine fin _ _ p1 p2 ?_
      rw [e1, e2, ← Nat.add_assoc, run_equalIn_bool' _ _ _ _ _ hu]; simp [eqVals, eqVal]
    | string hu ha =>
      obtain ⟨a, ⟨i, rfl⟩, p1, e1⟩ := one (zs := xs) _ rfl hx ha
      obtain ⟨b, ⟨j, rfl⟩, p2, e2⟩ := one (zs := ys) _ rfl hy ha
      refine fin _ _ p1 p2 ?_
      rw [e1, e2, ← Nat.add_assoc, run_equalIn_string _ _ _ _ _ hu]; simp [eqVals, eqVal]
    | agg hr ha hs =>
      have ex : ∀ {zs : Array Value}, KVs (l ++ l') (zs.toList.drop f.offset) → (part f.type zs f.offset).run P W = .ok (.agg (zs.extract f.offset (f.offset + l.length))) W ∧ (zs.extract f.offset (f.offset + l.length)).toList = (zs.toList.drop f.offset).take l.length ∧ KVs l (zs.extract f.offset (f.offset + l.length)).toList := by
        intro zs hz
        have hzl := hz.1
        rw [List.length_drop, List.length_append] at hzl
        have he : (zs.extract f.offset (f.offset + l.length)).toList = (zs.toList.drop f.offset).take l.length := by
          rw [Array.toList_extract, List.extract_eq_take_drop, Nat.add_sub_cancel_left]
        refine ⟨?_, he, ?_⟩
        · unfold part
          simp only [Sem.run_bind, ha, hs, Result.andThen_ok, if_true, Sem.run_pure]
        · rw [he]
          refine ⟨by rw [List.length_take, List.length_drop]; omega, fun i tk v p q => hz.2 i tk v ?_ ?_⟩
          · rw [List.getElem?_append_left (List.getElem?_eq_some_iff.1 p).1]; exact p
          · rw [List.getElem?_take] at q
            split at q
            · exact q
            · cases q
      obtain ⟨p1, e1, k1⟩ := ex hx
      obtain ⟨p2, e2, k2⟩ := ex hy
      refine fin _ _ p1 p2 ?_
      rw [hr d W _ _ k1 k2, e1, e2]
theorem EqRun.struct {P : Program} {n t : Nat} {fs : Array Field} {l : List TK} (hn : 1 ≤ n) (hu : P.underlying t = some (.struct fs)) (hp : P.stoodInHeld t = false) (h : EqFs P n 0 fs.toList l) : EqRun P (n + 1) t l := by
  intro d W xs ys hx hy
  have hf : P.fieldsOf t = fs := by unfold Program.fieldsOf; rw [hu]
  rw [← Nat.add_assoc, run_equalIn_struct W _ t xs ys (by rw [hf]; exact hu) hp, hf]
  have := h.run (xs := xs) (ys := ys) hn d W (by rw [List.drop_zero]; exact hx) (by rw [List.drop_zero]; exact hy)
  simpa using this

structure TIok (P : Program) (t : Nat) (ti : TI) : Prop where
  ex : ∃ (i : TypeInfo) (z : Value) (d : TypeDesc), P.info? t = some i ∧ P.underlying t = some d ∧ i.size = ti.size ∧ i.bytes = ti.bytes ∧ i.zero = some z ∧ kindOk ti.kind d ∧
    (∀ ms, d = .interface ms → ti.kind = .iface) ∧ z.cells.size = ti.size ∧ (∀ Sh W ρ, VRL Sh W ρ ti.zero z.cells.toList) ∧ (∀ v ∈ z.cells.toList, v.oneCell' = true)
  eq : ti.eq ≠ [] → EqOk P t ti.eq

/-- What the own blocks hold. -/
def LR (Sh : Nat → Prop) (W : World) (ρ : Rho) (H : Heap) : Prop :=
  ∀ id l sh b, look H id = some (some ⟨l, sh⟩) → ρ id = some b → ∃ (cs : Array Value) (e : TypeId) (fr : Nat × Nat), W.heap[b]? = some (.cells cs e fr) ∧ l.v.length ≤ cs.size ∧
    (∀ (i : Nat) (x : AV) (v : Value), l.v[i]? = some x → cs[i]? = some v → VR Sh W ρ x v) ∧ (∀ (i : Nat) (v : Value), cs[i]? = some v → v.oneCell' = true)

section
variable {P : Program} {G : Nat → Option (List AV)} {B : Nat} {Q : Ex → St → Prop} {τ : Tys} {Sh : Nat → Prop} {W : World} {ρ : Rho}

theorem HRel.lr {W0 S0 H n} (h : HRel G W0 S0 Sh ρ H n W) : LR Sh W ρ H := fun id l sh b q r => by
  obtain ⟨cs, e, fr, h1, h2, h3, h4, h5, h6⟩ := h.blk id l sh b q r
  exact ⟨cs, e, fr, h2, h3, h4, h5⟩

theorem ofV0_sound {v x} (h : ofV0 v = some x) : VR Sh W ρ x v ∧ v.oneCell' = true := by
  unfold ofV0 at h
  split at h <;> try cases h
  · exact ⟨.bool, rfl⟩
  · exact ⟨.int rfl, rfl⟩
  · exact ⟨.str rfl, rfl⟩
  · exact ⟨.nil, rfl⟩
  · exact ⟨.nilptr, rfl⟩
  · exact ⟨.nilFunc, rfl⟩
  · exact ⟨.nilIface, rfl⟩
  · split at h
    · rename_i f a b q
      cases h
      refine ⟨.func (by simp [q.1]) (fun i x v p _ => by simp at p) (by simp [q.2]) (fun i x v p _ => by simp at p), rfl⟩
    · cases h
theorem ofVs_sound : ∀ {vs xs}, ofVs vs = some xs → VRL Sh W ρ xs vs ∧ ∀ v ∈ vs, v.oneCell' = true
  | [], xs, h => by cases h; exact ⟨.nil, fun v h => by cases h⟩
  | v :: vs, xs, h => by
    unfold ofVs at h
    split at h
    · rename_i x ys h1 h2
      cases h
      obtain ⟨a, b⟩ := ofV0_sound (Sh := Sh) (W := W) (ρ := ρ) h1
      obtain ⟨c, d⟩ := ofVs_sound h2
      exact ⟨.cons a c, fun w hw => by cases hw with | head => exact b | tail _ hw => exact d w hw⟩
    · cases h
theorem VRL.of_array {l : List AV} {vs : Array Value} (h : VRL Sh W ρ l vs.toList) : vs.size = l.length ∧ ∀ (i : Nat) (x : AV) (v : Value), l[i]? = some x → vs[i]? = some v → VR Sh W ρ x v :=
  ⟨by simpa using h.1, fun i x v p q => h.2 i x v p (by simpa using q)⟩
theorem VRL.to_array {l : List AV} {vs : Array Value} (hl : vs.size = l.length) (h : ∀ (i : Nat) (x : AV) (v : Value), l[i]? = some x → vs[i]? = some v → VR Sh W ρ x v) : VRL Sh W ρ l vs.toList :=
  ⟨by simpa using hl, fun i x v p q => h i x v p (by simpa using q)⟩
theorem VR.aggL {b l} {vs : Array Value} (h : VRL Sh W ρ l vs.toList) (h1 : ∀ v ∈ vs.toList, v.oneCell' = true) : VR Sh W ρ (.agg b l) (.agg vs) :=
  .agg h.of_array.1 h.of_array.2 fun i v q => h1 v (List.mem_of_getElem? (i := i) (by simpa using q))
theorem ofV_sound {v x} (h : ofV v = some x) : VR Sh W ρ x v := by
  unfold ofV at h
  split at h
  · rename_i cs
    cases hq : ofVs cs.toList with
    | none => simp [hq] at h
    | some xs =>
      simp [hq] at h
      subst h
      obtain ⟨a, b⟩ := ofVs_sound (Sh := Sh) (W := W) (ρ := ρ) hq
      exact .aggL a b
  · exact (ofV0_sound h).1

theorem ev_sound {s : St} {a : Act} {nt : Nat} (hG : GR G Sh W) (ht : TR Sh W ρ nt s.tmps a.tmps) {x : Operand} {v : AV} (h : s.ev G x = some v) : VR Sh W ρ v (a.eval x) := by
  cases x with
  | tmp t =>
    obtain ⟨v', h1, h2⟩ := ht.2 t v h
    have : a.eval (.tmp t) = v' := by simp [Act.eval, Array.getD_eq_getD_getElem?, h1]
    rw [this]; exact h2
  | const c => exact ofV_sound h
  | global g =>
    simp only [St.ev, Option.map_eq_some_iff] at h
    obtain ⟨c, h1, rfl⟩ := h
    exact (hG g c h1).1.of_none ρ
  | func f => cases h; exact .func rfl (fun i x v p _ => by simp at p) rfl (fun i x v p _ => by simp at p)
theorem evs_sound {s : St} {a : Act} {nt : Nat} (hG : GR G Sh W) (ht : TR Sh W ρ nt s.tmps a.tmps) : ∀ {l : List Operand} {vs : List AV}, s.evs G l = some vs → VRL Sh W ρ vs (l.map a.eval)
  | [], vs, h => by cases h; exact .nil
  | x :: l, vs, h => by
    unfold St.evs at h
    split at h
    · rename_i v ws h1 h2
      cases h
      exact .cons (ev_sound hG ht h1) (evs_sound hG ht h2)
    · cases h

/-- The claim for an operation that leaves the memory as it is. -/
def ValOk (P : Program) (G : Nat → Option (List AV)) (o : Oper) (s : St) (x : AV) : Prop :=
  ∀ Sh W ρ nt (a : Act), GR G Sh W → LR Sh W ρ s.heap → TR Sh W ρ nt s.tmps a.tmps → ∃ v, (execOp a.eval o).run P W = .ok (.value v) W ∧ VR Sh W ρ x v

theorem kindAgg {k : TK} {d : TypeDesc} (h : kindOk k d) : k.isAgg = true → (∃ fs, d = .struct fs) ∨ ∃ n e, d = .array n e := by
  intro hk
  cases k <;> simp [TK.isAgg] at hk
  · exact .inr ⟨_, _, h⟩
  · obtain ⟨f, h, _⟩ := h; exact .inl ⟨_, h⟩
theorem kindNot {k : TK} {d : TypeDesc} (h : kindOk k d) (hk : k.isAgg = false) : (∀ fs, d ≠ .struct fs) ∧ ∀ n e, d ≠ .array n e := by
  cases k <;> simp only [TK.isAgg] at hk <;> simp only [kindOk] at h
  case plain => exact ⟨fun fs => (h fs).1, (h #[]).2⟩
  case iface => obtain ⟨ms, rfl⟩ := h; exact ⟨fun _ e => (by cases e), fun _ _ e => (by cases e)⟩
  case func => obtain ⟨a, b, c, rfl⟩ := h; exact ⟨fun _ e => (by cases e), fun _ _ e => (by cases e)⟩
  case array => cases hk
  case struct => cases hk
  all_goals (subst h; exact ⟨fun _ e => (by cases e), fun _ _ e => (by cases e)⟩)

theorem run_isAgg {t ti} (h : TIok P t ti) (w : World) : (isAgg t).run P w = .ok ti.kind.isAgg w := by
  obtain ⟨i, z, d, h1, h2, h3, h4, h5, h6, _⟩ := h.ex
  cases hk : ti.kind.isAgg with
  | true =>
    rcases kindAgg h6 hk with ⟨fs, rfl⟩ | ⟨n, e, rfl⟩ <;> simp [isAgg, run_underlying h2]
  | false =>
    obtain ⟨a, b⟩ := kindNot h6 hk
    simp only [isAgg, Sem.run_bind, run_underlying h2, Result.andThen_ok]
    rfl
theorem run_size {t ti} (h : TIok P t ti) (w : World) : (Go.sizeOf t).run P w = .ok ti.size w := by
  obtain ⟨i, z, d, h1, h2, h3, h4, h5, h6, _⟩ := h.ex
  simp [Go.sizeOf, typeInfo, h1, h3]

/-- A part of an aggregate. -/
theorem part_sound (hτ : ∀ t ti, τ t = some ti → TIok P t ti) {t cells off K} (h : (T.prop P G B Q (partT τ t cells off K))) : ∃ x, (T.prop P G B Q (K x)) ∧ ∀ Sh W ρ (vs : Array Value),
    (∀ (i : Nat) (x : AV) (v : Value), cells.v[i]? = some x → vs[i]? = some v → VR Sh W ρ x v) → cells.v.length ≤ vs.size → (∀ (i : Nat) (v : Value), vs[i]? = some v → v.oneCell' = true) → ∃ v, (part t vs off.v).run P W = .ok v W ∧ VR Sh W ρ x v := by
  obtain ⟨ti, hti, ⟨hk, h1, r, ys, hy1, hy2, h⟩ | ⟨hk, x, y, hx, hy, h⟩⟩ := partT_inv h
  · refine ⟨_, h, fun Sh W ρ vs hv hl hone => ⟨.agg (vs.extract off.v (off.v + ti.size)), ?_, ?_⟩⟩
    · simp [part, run_isAgg (hτ t ti hti), hk, run_size (hτ t ti hti)]
    · refine .agg ?_ ?_ ?_
      · simp [hy1]; omega
      · intro i y v p q
        rw [Array.getElem?_extract] at q
        split at q
        · have hi := (List.getElem?_eq_some_iff.1 p).1
          have hx : cells.v[off.v + i]? = some (cells.v[off.v + i]'(by omega)) := List.getElem?_eq_getElem _
          exact hy2 i _ y hx p _ _ _ _ (hv (off.v + i) _ v hx q)
        · cases q
      · intro i v q
        rw [Array.getElem?_extract] at q
        split at q
        · exact hone _ v q
        · cases q
  · refine ⟨y, h, fun Sh W ρ vs hv hl hone => ?_⟩
    have hlt := (List.getElem?_eq_some_iff.1 hx).1
    have hq : vs[off.v]? = some (vs[off.v]'(by omega)) := Array.getElem?_eq_getElem _
    exact ⟨_, by simp [part, run_isAgg (hτ t ti hti), hk, hq], hy _ _ _ _ (hv _ _ _ hx hq)⟩

theorem Addr.add_lit' (b o n : Nat) : (⟨b, o, none⟩ : Addr).add n = ⟨b, o + n, none⟩ := by
  unfold Addr.add; split <;> simp_all

/-- A load. -/
theorem load_sound (hτ : ∀ t ti, τ t = some ti → TIok P t ti) {H t x K} (h : (T.prop P G B Q (loadT τ H t x K))) : ∃ y, (T.prop P G B Q (K y)) ∧ ∀ Sh W ρ v, LR Sh W ρ H → VR Sh W ρ x v → ∃ v', (Instr.loadAt t v).run P W = .ok v' W ∧ VR Sh W ρ y v' := by
  -- a load out of cells that are known
  have key : ∀ {cells : L} {off : N}, (T.prop P G B Q (partT τ t cells off K)) → ∃ y, (T.prop P G B Q (K y)) ∧ ∀ Sh W ρ (b o : Nat) (vs : List Value), VRL Sh W ρ cells.v vs → (∀ (i : Nat) (v : Value), vs[i]? = some v → W.cell? ⟨b, o + i, none⟩ = some v) →
      (∀ v ∈ vs, v.oneCell' = true) → ∃ v', (loadVar t ⟨b, o + off.v, none⟩).run P W = .ok v' W ∧ VR Sh W ρ y v' := by
    intro cells off h
    obtain ⟨ti, hti, ⟨hk, h1, r, ys, hy1, hy2, h⟩ | ⟨hk, x, y, hx, hy, h⟩⟩ := partT_inv h
    · refine ⟨_, h, fun Sh W ρ b o vs hv hc hone => ⟨.agg ((vs.drop off.v).take ti.size).toArray, ?_, ?_⟩⟩
      · have hlen : ((vs.drop off.v).take ti.size).length = ti.size := by have := hv.1; simp; omega
        have hl := run_loadCells_list (P := P) (w := W) (⟨b, o + off.v, none⟩ : Addr) ((vs.drop off.v).take ti.size) (by
          intro j v q
          rw [Addr.add_lit', Nat.add_assoc]
          refine hc (off.v + j) v ?_
          rw [List.getElem?_take] at q
          split at q
          · simpa using q
          · cases q)
        rw [hlen] at hl
        simp [loadVar, run_isAgg (hτ t ti hti), hk, run_size (hτ t ti hti), hl]
      · refine .aggL ?_ ?_
        · refine ⟨by have := hv.1; simp; omega, fun i y v p q => ?_⟩
          have hi := (List.getElem?_eq_some_iff.1 p).1
          have hx : cells.v[off.v + i]? = some (cells.v[off.v + i]'(by omega)) := List.getElem?_eq_getElem _
          have q : ((vs.drop off.v).take ti.size)[i]? = some v := by simpa using q
          rw [List.getElem?_take] at q
          split at q
          · exact hy2 i _ y hx p _ _ _ _ (hv.2 (off.v + i) _ v hx (by simpa using q))
          · cases q
        · intro v hm
          exact hone v (List.mem_of_mem_drop (List.mem_of_mem_take (by simpa using hm)))
    · refine ⟨y, h, fun Sh W ρ b o vs hv hc hone => ?_⟩
      have hlt := (List.getElem?_eq_some_iff.1 hx).1
      have hq : vs[off.v]? = some (vs[off.v]'(by have := hv.1; omega)) := List.getElem?_eq_getElem _
      refine ⟨_, ?_, hy _ _ _ _ (hv.2 _ _ _ hx hq)⟩
      simp [loadVar, run_isAgg (hτ t ti hti), hk, load, Sem.run, hc _ _ hq]
  unfold loadT at h
  split at h
  · rename_i id off
    obtain ⟨⟨l, sh⟩, hb, h⟩ := heapT_inv h
    obtain ⟨y, hy, hk⟩ := key h
    refine ⟨y, hy, fun Sh W ρ v hL hv => ?_⟩
    cases hv with
    | @ptr _ _ _ b o hr ho =>
      obtain ⟨cs, e, fr, h2, h3, h4, h5⟩ := hL id l sh b hb hr
      obtain ⟨v', r1, r2⟩ := hk Sh W ρ b 0 (cs.toList.take l.v.length) ⟨by simp; omega, fun i x v p q => by
          rw [List.getElem?_take] at q
          split at q
          · exact h4 i x v p (by simpa using q)
          · cases q⟩ (fun i v q => by
          rw [List.getElem?_take] at q
          split at q
          · rw [Nat.zero_add, cell_of_row h2]; simpa using q
          · cases q) (fun v hm => by
          obtain ⟨i, hi⟩ := List.mem_iff_getElem?.1 (List.mem_of_mem_take hm)
          exact h5 i v (by simpa using hi))
      refine ⟨v', ?_, r2⟩
      simpa [Instr.loadAt, Instr.sureAddr, ← ho] using r1
  · rename_i lit cells off
    obtain ⟨y, hy, hk⟩ := key h
    refine ⟨y, hy, fun Sh W ρ v hL hv => ?_⟩
    cases hv with
    | @ref _ _ _ _ a vs hsp hS ho hl hc hv h1 =>
      obtain ⟨ab, ao, asp⟩ := a
      dsimp only at hsp ho hc
      subst hsp
      obtain ⟨v', r1, r2⟩ := hk Sh W (fun _ => none) ab (ao - off.v) vs ⟨hl, hv⟩ hc h1
      refine ⟨v', ?_, r2.of_none ρ⟩
      rw [show ao - off.v + off.v = ao by omega] at r1
      simpa [Instr.loadAt, Instr.sureAddr] using r1
  · exact h.elim
end
end Go.Ax
