/-
  The small abstract machine: operations that make memory, and that write: each of them.
-/
import Derived.Test.YtcohbcdhcmajiaaDoorAx11
namespace Go.Ax
open Go.RowKit
set_option linter.unusedVariables false

section
variable {P : Program} {G : Nat → Option (List AV)} {B : Nat} {Q : Ex → St → Prop} {τ : Tys}

/-- A state, and a frame in a world. -/
structure Sim (G : Nat → Option (List AV)) (W0 : World) (S0 Sh : Nat → Prop) (ρ : Rho) (s : St) (a : Act) (W : World) : Prop where
  defers : a.defers = []
  hr : HRel G W0 S0 Sh ρ s.heap s.next W
  tr : TR Sh W ρ s.nt s.tmps a.tmps

variable {W0 : World} {S0 Sh : Nat → Prop} {ρ : Rho} {W : World} {s : St} {a : Act}

theorem TR.ext {Sh' ρ' W' nt tm tmps} (e : Ext Sh ρ W Sh' ρ' W') (h : TR Sh W ρ nt tm tmps) : TR Sh' W' ρ' nt tm tmps :=
  ⟨h.1, fun t x q => by obtain ⟨v, h1, h2⟩ := h.2 t x q; exact ⟨v, h1, h2.ext e⟩⟩

theorem TR.put {nt : Nat} {tm : List (Nat × AV)} {tmps : Array Value} (h : TR Sh W ρ nt tm tmps) {d : Nat} {x : AV} {v : Value} (hd : d < nt) (hv : VR Sh W ρ x v) : TR Sh W ρ nt ((d, x) :: tm) (tmps.setIfInBounds d v) := by
  refine ⟨by simpa using h.1, fun t y q => ?_⟩
  unfold look at q
  by_cases ht : d = t
  · rw [if_pos ht] at q
    cases q
    subst ht
    exact ⟨v, by rw [Array.getElem?_setIfInBounds]; simp [h.1, hd], hv⟩
  · rw [if_neg ht] at q
    obtain ⟨w, h1, h2⟩ := h.2 t y q
    exact ⟨w, by rw [Array.getElem?_setIfInBounds, if_neg ht]; exact h1, h2⟩

theorem Sim.put (h : Sim G W0 S0 Sh ρ s a W) {o : Oper} (hd : dstOk o s = true) {x : AV} {v : Value} (hv : VR Sh W ρ x v) : Sim G W0 S0 Sh ρ (s.put o.dst x) (a.put o.dst v) W := by
  unfold dstOk at hd
  unfold St.put Act.put
  cases ho : o.dst with
  | none => exact h
  | some d =>
    rw [ho] at hd
    exact ⟨h.defers, h.hr, h.tr.put (of_decide_eq_true hd) hv⟩

theorem Sim.alike (h : Sim G W0 S0 Sh ρ s a W) {s' : St} (hs : s.Alike s') : Sim G W0 S0 Sh ρ s' a W :=
  ⟨h.defers, by rw [hs.heap, hs.next]; exact h.hr, by rw [hs.nt]; exact ⟨h.tr.1, fun t x q => h.tr.2 t x (by rw [← hs.look]; exact q)⟩⟩

/-- What must hold behind an operation. -/
def Then (P : Program) (G : Nat → Option (List AV)) (B : Nat) (Q : Ex → St → Prop) (W0 : World) (S0 Sh : Nat → Prop) (ρ : Rho) (nt : Nat) (W : World) (K : St → T) (next : Act → World → Prop) : Prop :=
  ∀ s' Sh' ρ' a' W', T.prop P G B Q (K s') → Ext Sh ρ W Sh' ρ' W' → Sim G W0 S0 Sh' ρ' s' a' W' → s'.nt = nt → next a' W'

theorem nt_put (s : St) (d : Option Nat) (x : AV) : (s.put d x).nt = s.nt := by cases d <;> rfl

theorem Oper.wp_value {o : Oper} {v : Value} {W' : World} {next Q'} (h : (execOp a.eval o).run P W = .ok (.value v) W') (hn : next (a.put o.dst v) W') : o.wp P a W next Q' := by
  unfold Go.Oper.wp; rw [h]; exact hn
theorem Oper.wp_skip {o : Oper} {W' : World} {next Q'} (h : (execOp a.eval o).run P W = .ok .skip W') (hn : next (a.put o.dst undef) W') : o.wp P a W next Q' := by
  unfold Go.Oper.wp; rw [h]; exact hn

/-- A new block, its number put into a slot. -/
theorem Sim.new (h : Sim G W0 S0 Sh ρ s a W) {o : Oper} (hd : dstOk o s = true) {W' : World} {l : L} {cs : Array Value} {e : TypeId} {fr : Nat × Nat} (g : Grew W W' (.cells cs e fr)) (hl : l.v.length ≤ cs.size)
    (hv : ∀ (i : Nat) (x : AV) (v : Value), l.v[i]? = some x → cs[i]? = some v → VR Sh W ρ x v) (h1 : ∀ (i : Nat) (v : Value), cs[i]? = some v → v.oneCell' = true) (hf : ∀ o, o < cs.size → ¬ (fr.1 ≤ o ∧ o < fr.2))
    {x : AV} {v : Value} (hx : VR Sh W' (ρ.add s.next W.heap.size) x v) :
    Ext Sh ρ W Sh (ρ.add s.next W.heap.size) W' ∧ Sim G W0 S0 Sh (ρ.add s.next W.heap.size) (s.new o.dst x l) (a.put o.dst v) W' := by
  obtain ⟨e1, h'⟩ := h.hr.new g hl hv h1 hf
  refine ⟨e1, ?_⟩
  exact Sim.put (s := { s with heap := (s.next, some ⟨l, false⟩) :: s.heap, next := s.next + 1 }) ⟨h.defers, h', h.tr.ext e1⟩ hd hx

theorem add_self (ρ : Rho) (n b : Nat) : (ρ.add n b) n = some b := by simp [Rho.add]

/-- An own slice of a new block. -/
theorem own_new {W' : World} {cs : Array Value} {e : TypeId} {fr : Nat × Nat} (g : Grew W W' (.cells cs e fr)) {id : Nat} {n : N} {cap : Option N} {sz m c : Nat} (hn : n.v = m) (hmc : m ≤ c) (hcap : ∀ c', cap = some c' → c'.v = c) (hfit : c * sz ≤ cs.size)
    {ρ : Rho} (hρ : ρ id = some W.heap.size) : VR Sh W' ρ (.own id (.lit 0) n cap sz) (.slice (some ⟨W.heap.size, 0, none⟩) m c) :=
  .own hn rfl hρ g.new hcap hmc (by simpa using hfit)

/-- The claim for an operation that makes a new block. -/
def NewOk (P : Program) (G : Nat → Option (List AV)) (o : Oper) (s : St) (x : AV) (l : L) : Prop :=
  ∀ Sh W ρ nt (a : Act), GR G Sh W → TR Sh W ρ nt s.tmps a.tmps → ∃ v W' cs e fr, (execOp a.eval o).run P W = .ok (.value v) W' ∧ Grew W W' (.cells cs e fr) ∧ l.v.length ≤ cs.size ∧
    (∀ (i : Nat) (x : AV) (v : Value), l.v[i]? = some x → cs[i]? = some v → VR Sh W ρ x v) ∧ (∀ (i : Nat) (v : Value), cs[i]? = some v → v.oneCell' = true) ∧ (∀ o, o < cs.size → ¬ (fr.1 ≤ o ∧ o < fr.2)) ∧
    ∀ ρ' : Rho, ρ' s.next = some W.heap.size → VR Sh W' ρ' x v

theorem NewOk.sound {o : Oper} {x : AV} {l : L} {K : St → T} {next Q'} (hn : NewOk P G o s x l) (sim : Sim G W0 S0 Sh ρ s a W) (hd : dstOk o s = true) (h : (T.prop P G B Q (K (s.new o.dst x l)))) (hK : Then P G B Q W0 S0 Sh ρ s.nt W K next) : o.wp P a W next Q' := by
  obtain ⟨v, W', cs, e, fr, h1, g, h2, h3, h4, h5, h6⟩ := hn Sh W ρ s.nt a sim.hr.glob sim.tr
  obtain ⟨e1, s1⟩ := sim.new (o := o) (l := l) hd g h2 h3 h4 h5 (x := x) (v := v) (h6 _ (add_self _ _ _))
  exact Oper.wp_value h1 (hK _ _ _ _ _ h e1 s1 (nt_put _ _ _))

theorem Grew.alloc (W : World) (o : Obj) : Grew W (W.alloc o) o := ⟨rfl, rfl, rfl, rfl⟩

theorem all_oneCell {cs : Array Value} (h : ∀ v ∈ cs.toList, v.oneCell' = true) (i : Nat) (v : Value) (q : cs[i]? = some v) : v.oneCell' = true :=
  h v (List.mem_of_getElem? (i := i) (by simpa using q))

theorem box_new {o : Oper} {t : TypeId} {x : Operand} {K : AV → L → T} (ho : o.op = .box t x) {v : AV} (hv : s.ev G x = some v) (h : (T.prop P G B Q (cellsT v fun w => K (.ptr s.next (.lit 0)) w))) : ∃ x l, (T.prop P G B Q (K x l)) ∧ NewOk P G o s x l := by
  obtain ⟨l, h, hl⟩ := cellsT_inv h
  refine ⟨_, l, h, fun Sh W ρ nt a hG ht => ?_⟩
  obtain ⟨h1, h2⟩ := hl Sh W ρ _ (ev_sound hG ht hv)
  refine ⟨.pointer (some ⟨W.heap.size, 0, none⟩), W.alloc (.cells (a.eval x).cells t (0, 0)), _, _, _, by rw [execOp, ho]; rfl, Grew.alloc W _, by rw [← h1.1]; simp, h1.of_array.2, all_oneCell h2, fun o _ q => by omega, fun ρ' hr => .ptr hr rfl⟩

theorem alloc_new (hτ : ∀ t ti, τ t = some ti → TIok P t ti) {o : Oper} {t : TypeId} {K : AV → L → T} (ho : o.op = .alloc t) {ti : TI} (hti : τ t = some ti)
    (h : (T.prop P G B Q (K (.ptr s.next (.lit 0)) ⟨true, ti.zero⟩))) : ∃ x l, (T.prop P G B Q (K x l)) ∧ NewOk P G o s x l := by
  obtain ⟨i, z, d, h1, h2, h3, h4, h5, h6, h7, h8, h9, h10⟩ := (hτ t ti hti).ex
  refine ⟨_, _, h, fun Sh W ρ nt a hG ht => ?_⟩
  have hz := h9 Sh W ρ
  refine ⟨.pointer (some ⟨W.heap.size, 0, none⟩), W.alloc (.cells z.cells t (0, 0)), _, _, _, ?_, Grew.alloc W _, by rw [← hz.1]; simp, hz.of_array.2, all_oneCell h10, fun o _ q => by omega, fun ρ' hr => .ptr hr rfl⟩
  rw [execOp, ho]
  refine run_v ?_
  have hz' : (zeroValue t).run P W = .ok z W := by simp [zeroValue, typeInfo, h1, h5]
  simp only [Instr.alloc, Sem.run_bind, hz', Result.andThen_ok]
  rfl

theorem getElem?_listC {α : Type} (z : List α) : ∀ (n i : Nat), (listC n z)[i]? = if i < n * z.length then z[i % z.length]? else none
  | 0, i => by simp [listC]
  | n + 1, i => by
    unfold listC
    by_cases h : i < z.length
    · rw [List.getElem?_append_left h, if_pos (by rw [Nat.add_mul]; omega), Nat.mod_eq_of_lt h]
    · rw [List.getElem?_append_right (by omega), getElem?_listC z n]
      have e : (i - z.length) % z.length = i % z.length := by rw [← Nat.mod_eq_sub_mod (by omega)]
      rw [e]
      by_cases h2 : i - z.length < n * z.length
      · rw [if_pos h2, if_pos (by rw [Nat.add_mul]; omega)]
      · rw [if_neg h2, if_neg (by rw [Nat.add_mul]; omega)]
theorem length_listC {α : Type} (z : List α) : ∀ n, (listC n z).length = n * z.length
  | 0 => by simp [listC]
  | n + 1 => by unfold listC; rw [List.length_append, length_listC z n, Nat.add_mul]; omega
theorem VRL.listC {l : List AV} {vs : List Value} (h : VRL Sh W ρ l vs) : ∀ n, VRL Sh W ρ (Ax.listC n l) (Ax.listC n vs)
  | 0 => .nil
  | n + 1 => h.append (VRL.listC h n)
theorem range_listC (z : Array Value) (n k : Nat) (hk : z.size = k) : ((Array.range (n * k)).map (fun i => z[i % z.size]!)).toList = listC n z.toList := by
  apply List.ext_getElem?
  intro i
  rw [getElem?_listC]
  have hl : z.toList.length = k := by simpa using hk
  rw [hl]
  by_cases h : i < n * k
  · rw [if_pos h]
    have hk0 : 0 < k := by
      rcases Nat.eq_zero_or_pos k with e | e
      · subst e; simp at h
      · exact e
    have hlt : i % k < z.size := by rw [hk]; exact Nat.mod_lt _ hk0
    simp [h, hk]
    rw [Array.getElem?_eq_getElem hlt, getElem!_pos z _ hlt]
  · rw [if_neg h]
    apply List.getElem?_eq_none
    simp; omega

theorem mem_listC {α : Type} {z : List α} {x : α} : ∀ {n}, x ∈ listC n z → x ∈ z
  | 0, h => by cases h
  | n + 1, h => by
    unfold listC at h
    rcases List.mem_append.1 h with h | h
    · exact h
    · exact mem_listC h

/-- The zeros of a new row. -/
theorem zeros_sound (hτ : ∀ t ti, τ t = some ti → TIok P t ti) {e : TypeId} {ti : TI} (hti : τ e = some ti) (n : Nat) (W : World) : ∃ cs zc : Array Value, (n * ti.size = 0 → zc = #[]) ∧ (n * ti.size ≠ 0 → ∃ z, (zeroValue e).run P W = .ok z W ∧ zc = z.cells) ∧
    (Array.range (n * ti.size)).map (zc[· % zc.size]!) = cs ∧ cs.size = n * ti.size ∧ (∀ Sh W ρ, VRL Sh W ρ (listC n ti.zero) cs.toList) ∧ ∀ v ∈ cs.toList, v.oneCell' = true := by
  obtain ⟨i, z, d, h1, h2, h3, h4, h5, h6, h7, h8, h9, h10⟩ := (hτ e ti hti).ex
  have hz0 : ti.zero.length = ti.size := by
    have := (h9 (fun _ => False) W (fun _ => none)).1
    simp at this; omega
  by_cases h0 : n * ti.size = 0
  · refine ⟨#[], #[], fun _ => rfl, fun q => absurd h0 q, by simp [h0], by simp [h0], fun Sh W ρ => ?_, fun v hv => by simp at hv⟩
    · have : listC n ti.zero = [] := List.eq_nil_of_length_eq_zero (by rw [length_listC, hz0, h0])
      rw [this]; exact .nil
  · refine ⟨(Array.range (n * ti.size)).map (fun i => z.cells[i % z.cells.size]!), z.cells, fun q => absurd q h0, fun _ => ⟨z, by simp [zeroValue, typeInfo, h1, h5], rfl⟩, rfl, by simp, fun Sh W ρ => ?_, fun v hv => ?_⟩
    · rw [range_listC z.cells n ti.size h8]
      exact (h9 Sh W ρ).listC n
    · rw [range_listC z.cells n ti.size h8] at hv
      exact h10 v (mem_listC hv)

theorem parts_sound {ps : Array (Nat × Operand)} {l : List (Nat × AV)} (hG : GR G Sh W) {nt : Nat} (ht : TR Sh W ρ nt s.tmps a.tmps) (hl : s.parts G ps.toList = some l) : Parts Sh W ρ l (ps.map fun (i, x) => (i, a.eval x)).toList := by
  unfold St.parts at hl
  split at hl
  · rename_i vs hvs
    cases hl
    have := evs_sound hG ht hvs
    have hlen : vs.length = ps.toList.length := by have := this.1; simp at this ⊢; omega
    refine ⟨?_, ?_⟩
    · simp only [Array.toList_map, List.map_map]
      rw [List.map_fst_zip (by simp [hlen])]
      rfl
    · rw [List.map_snd_zip (by simp [hlen])]
      simpa [Function.comp_def] using this
  · cases hl

theorem buildSlice_new (hτ : ∀ t ti, τ t = some ti → TIok P t ti) {o : Oper} {t : TypeId} {len : Nat} {ps : Array (Nat × Operand)} {K : AV → L → T} (ho : o.op = .buildSlice t len ps)
    {e : TypeId} {ti : TI} (he : elemOf τ t = some (e, ti)) {l : List (Nat × AV)} (hl : s.parts G ps.toList = some l) (hsz : ¬ len * ti.size > 16777216)
    (h : (T.prop P G B Q (fillT (fun i => some (i * ti.size, ti.size)) l ⟨true, listC len ti.zero⟩ fun cells => K (.own s.next (.lit 0) (.lit len) (some (.lit len)) ti.size) cells))) : ∃ x l, (T.prop P G B Q (K x l)) ∧ NewOk P G o s x l := by
  obtain ⟨hu, hte⟩ := elemOf_inv hτ he
  obtain ⟨r, h, hf⟩ := fill_sound (place' := fun i => some (i * ti.size, ti.size)) (fun i p q => q) h
  refine ⟨_, r, h, fun Sh W ρ nt a hG ht => ?_⟩
  obtain ⟨cs, zc, za, zb, z1, z2, z3, z4⟩ := zeros_sound hτ hte len W
  obtain ⟨cs', f1, f2, f3⟩ := hf Sh W ρ cs (ps.map fun (i, x) => (i, a.eval x)).toList (z3 Sh W ρ) z4 (parts_sound hG ht hl)
  have g := Grew.alloc W (.cells cs' e (0, 0))
  have hcs : len * ti.size ≤ cs'.size := by
    -- the filling keeps the size
    have key : ∀ (vs : List (Nat × Value)) (c c' : Array Value) (p : Nat → Option (Nat × Nat)), Instr.fill p c vs = some c' → c'.size = c.size := by
      intro vs
      induction vs with
      | nil => intro c c' p q; cases q; rfl
      | cons v vs ih =>
        intro c c' p q
        unfold Instr.fill at q
        split at q
        · cases q
        · split at q
          · cases q
          · rw [ih _ _ _ q]
            have : ∀ (l : List (Value × Nat)) (c : Array Value) (off : Nat), (l.foldl (fun (cs : Array Value) (p : Value × Nat) => cs.setIfInBounds (off + p.2) p.1) c).size = c.size := by
              intro l
              induction l with
              | nil => intro c off; rfl
              | cons x l ih => intro c off; rw [List.foldl_cons, ih]; simp
            rw [← Array.foldl_toList]
            exact this _ _ _
    rw [key _ _ _ _ f1, z2]; exact Nat.le_refl _
  refine ⟨.slice (some ⟨W.heap.size, 0, none⟩) len len, W.alloc (.cells cs' e (0, 0)), _, _, _, ?_, g, by rw [← f2.1]; simp, f2.of_array.2, all_oneCell f3, fun o _ q => by omega,
    fun ρ' hr => own_new g rfl (Nat.le_refl _) (fun c' e => by cases e; rfl) hcs hr⟩
  rw [execOp, ho]
  refine run_v ?_
  have hsz' : ¬ (2 ^ 24 < len * ti.size) := by omega
  by_cases h0 : len * ti.size = 0
  · have e0 := za h0
    subst e0
    simp only [Instr.buildSlice, Sem.run_bind, run_underlying hu, Result.andThen_ok, run_size (hτ _ _ hte), gt_iff_lt, hsz', if_false, if_pos h0, Sem.run_pure, z1, f1]
    rfl
  · obtain ⟨z, hz, e0⟩ := zb h0
    subst e0
    simp only [Instr.buildSlice, Sem.run_bind, run_underlying hu, Result.andThen_ok, run_size (hτ _ _ hte), gt_iff_lt, hsz', if_false, if_neg h0, hz, Sem.run_pure, z1, f1]
    rfl
end
end Go.Ax
