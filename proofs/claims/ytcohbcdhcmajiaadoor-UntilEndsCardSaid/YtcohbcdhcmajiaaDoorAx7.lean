/-
  The small abstract machine: lengths, indexes, slices, conversions, structs.
-/
import Derived.Test.YtcohbcdhcmajiaaDoorAx6
import Derived.Lib.Strings
namespace Go.Ax
open Go.RowKit
set_option linter.unusedVariables false

section
variable {P : Program} {G : Nat → Option (List AV)} {B : Nat} {Q : Ex → St → Prop} {τ : Tys}

theorem size_of_str {s : S} {b : ByteArray} (h : b.data.toList = s.v) : b.size = s.v.length := by
  show b.data.size = _; rw [← h, Array.length_toList]

theorem elemOf_inv (hτ : ∀ t ti, τ t = some ti → TIok P t ti) {t e ti} (h : elemOf τ t = some (e, ti)) : P.underlying t = some (.slice e) ∧ τ e = some ti := by
  unfold elemOf at h
  split at h
  · rename_i ti' h1
    split at h
    · rename_i e' hk
      simp only [Option.map_eq_some_iff, Prod.mk.injEq] at h
      obtain ⟨a, h2, rfl, rfl⟩ := h
      obtain ⟨i, z, d, h3, h4, h5, h6, h7, h8, _⟩ := (hτ t ti' h1).ex
      rw [hk] at h8
      exact ⟨h4.trans (congrArg some h8), h2⟩
    · cases h
  · cases h
theorem arrayOf_inv (hτ : ∀ t ti, τ t = some ti → TIok P t ti) {t n e ti} (h : arrayOf τ t = some (n, e, ti)) : P.underlying t = some (.array n e) ∧ τ e = some ti := by
  unfold arrayOf at h
  split at h
  · rename_i ti' h1
    split at h
    · rename_i n' e' hk
      simp only [Option.map_eq_some_iff, Prod.mk.injEq] at h
      obtain ⟨a, h2, rfl, rfl, rfl⟩ := h
      obtain ⟨i, z, d, h3, h4, h5, h6, h7, h8, _⟩ := (hτ t ti' h1).ex
      rw [hk] at h8
      exact ⟨h4.trans (congrArg some h8), h2⟩
    · cases h
  · cases h
theorem fieldAt_inv (hτ : ∀ t ti, τ t = some ti → TIok P t ti) {t f off ft} (h : fieldAt τ t f = some (off, ft)) : ∃ (fs : Array Field) (x : Field), P.underlying t = some (.struct fs) ∧ fs[f]? = some x ∧ x.offset = off ∧ x.type = ft := by
  unfold fieldAt at h
  split at h
  · rename_i ti' h1
    split at h
    · rename_i l hk
      obtain ⟨i, z, d, h3, h4, h5, h6, h7, h8, _⟩ := (hτ t ti' h1).ex
      rw [hk] at h8
      obtain ⟨fs, rfl, rfl⟩ := h8
      rw [List.getElem?_map] at h
      cases hx : fs.toList[f]? with
      | none => rw [hx] at h; cases h
      | some x =>
        rw [hx] at h
        cases h
        exact ⟨fs, x, h4, by simpa using hx, rfl, rfl⟩
    · cases h
  · cases h

theorem len_sound (hτ : ∀ t ti, τ t = some ti → TIok P t ti) {t x K} (h : (T.prop P G B Q (lenT τ t x K))) : ∃ r, (T.prop P G B Q (K r)) ∧ ∀ Sh W ρ a (ts : Array TypeId) ty, ts[0]? = some t → VR Sh W ρ x a → ∃ v, (Builtin.len_ ts ty #[a]).run P W = .ok v W ∧ VR Sh W ρ r v := by
  unfold lenT at h
  split at h
  · split at h
    · rename_i hk
      have hu := isK_str hτ hk
      obtain ⟨n, hn, h⟩ := len_inv h
      refine ⟨_, h, fun Sh W ρ a ts ty ht ha => ?_⟩
      cases ha with | str ha =>
      exact ⟨_, by simp [Builtin.len_, ht, run_underlying hu]; rfl, .int (by rw [intN_v, hn, ← size_of_str ha])⟩
    · exact h.elim
  all_goals first | exact h.elim | skip
  all_goals
    split at h
    rotate_left
    · exact h.elim
    rename_i hk
    obtain ⟨e, hu⟩ := isK_slice hτ hk
    refine ⟨_, h, fun Sh W ρ a ts ty ht ha => ?_⟩
    first
    | (rcases ha.seq_inv with ⟨rfl, hn, _⟩ | ⟨_, rfl, hn, _⟩ | ha
       · exact ⟨_, by simp [Builtin.len_, ht, run_underlying hu]; rfl, .int (by rw [intN_v, hn]; rfl)⟩
       · exact ⟨_, by simp [Builtin.len_, ht, run_underlying hu]; rfl, .int (by rw [intN_v, hn]; rfl)⟩
       · cases ha
         exact ⟨_, by simp [Builtin.len_, ht, run_underlying hu]; rfl, .int (by rw [intN_v]; simp [*])⟩)
    | (cases ha with | buf ha ht' =>
       rcases ha.acc_inv with ⟨rfl, hn⟩ | ha
       · exact ⟨_, by simp [Builtin.len_, ht, run_underlying hu]; rfl, .int (by rw [intN_v, hn]; rfl)⟩
       · cases ha
         exact ⟨_, by simp [Builtin.len_, ht, run_underlying hu]; rfl, .int (by rw [intN_v]; simp [*])⟩)
    | (cases ha with
       | acc0 h0 => exact ⟨_, by simp [Builtin.len_, ht, run_underlying hu]; rfl, .int (by rw [intN_v, h0]; rfl)⟩
       | acc1 ha =>
         cases ha
         exact ⟨_, by simp [Builtin.len_, ht, run_underlying hu]; rfl, .int (by rw [intN_v]; simp [*])⟩)
    | (cases ha
       refine ⟨_, by simp [Builtin.len_, ht, run_underlying hu]; rfl, .int ?_⟩
       first | rfl | (rw [intN_v]; simp [*]))

theorem minmax_sound {mx x l K} (h : (T.prop P G B Q (minmaxT mx x l K))) : ∃ r, (T.prop P G B Q (K r)) ∧ ∀ Sh W ρ a vs, VR Sh W ρ x a → VRL Sh W ρ l vs → ∃ v, ((vs.foldlM (if mx then Builtin.max2 else Builtin.min2) a)).run P W = .ok v W ∧ VR Sh W ρ r v := by
  induction l generalizing x K with
  | nil =>
    cases x <;> (unfold minmaxT at h; exact ⟨_, h, fun Sh W ρ a vs ha hv => ⟨a, by rw [hv.unnil]; rfl, ha⟩⟩)
  | cons y l ih =>
    have key : ∃ k a k' b, x = .int k a ∧ y = .int k' b ∧ ∃ r : I, r.v = minmax mx a.v b.v ∧ (T.prop P G B Q (minmaxT mx (.int k r) l K)) := by
      unfold minmaxT at h
      split at h
      · rename_i e; cases e
      · rename_i k a k' b _ e
        cases e
        refine ⟨k, a, k', b, rfl, rfl, ?_⟩
        split at h
        · exact ⟨_, rfl, h⟩
        · exact h
      · exact h.elim
    obtain ⟨k, a, k', b, rfl, rfl, r, hr, h⟩ := key
    obtain ⟨q, h1, h2⟩ := ih h
    refine ⟨q, h1, fun Sh W ρ va vs ha hv => ?_⟩
    obtain ⟨vb, ws, rfl, hb, hw⟩ := hv.uncons
    cases ha with | @int _ _ _ ma ha => cases hb with | @int _ _ _ mb hb =>
    obtain ⟨v, h3, h4⟩ := h2 Sh W ρ (.int k r.v) ws (.int rfl) hw
    refine ⟨v, ?_, h4⟩
    rw [← h3]
    simp only [List.foldlM_cons, Sem.run_bind]
    have : ((if mx = true then Builtin.max2 else Builtin.min2) (.int k ma) (.int k' mb)).run P W = .ok (.int k r.v) W := by
      rw [hr, ha, hb]
      cases mx <;> rfl
    rw [this]; rfl

/-- Numbers out of options. -/
theorem ints_one {a : Option AV} {r} (h : ints [a] = some [r]) : (a = none ∧ r = none) ∨ ∃ k i, a = some (.int k i) ∧ r = some i := by
  cases a with
  | none => simp [ints] at h; exact .inl ⟨rfl, h.symm⟩
  | some x => cases x <;> simp [ints] at h; exact .inr ⟨_, _, rfl, h.symm⟩
theorem ints_two {a b : Option AV} {r s} (h : ints [a, b] = some [r, s]) : ints [a] = some [r] ∧ ints [b] = some [s] := by
  cases a with
  | none =>
    have : ints [none, b] = (ints [b]).map (none :: ·) := rfl
    rw [this] at h
    cases hb : ints [b] with
    | none => rw [hb] at h; cases h
    | some l => rw [hb] at h; simp at h; obtain ⟨rfl, rfl⟩ := h; exact ⟨rfl, rfl⟩
  | some x =>
    cases x
    case int k i =>
      have : ints [some (.int k i), b] = (ints [b]).map (some i :: ·) := rfl
      rw [this] at h
      cases hb : ints [b] with
      | none => rw [hb] at h; cases h
      | some l => rw [hb] at h; simp at h; obtain ⟨rfl, rfl⟩ := h; exact ⟨rfl, rfl⟩
    all_goals (cases b <;> simp [ints] at h)

/-- A bound, and its value. -/
def BV (i : Option I) (v : Option Value) : Prop :=
  match i, v with
  | none, none => True
  | some i, some v => ∃ k, v = .int k i.v
  | _, _ => False

theorem run_bounds {lo hi : Option I} {low high : Option Value} {l u len y : Nat} {b : Bool} (h1 : BV lo low) (h2 : BV hi high)
    (hh : HiIs hi u len) (hl : LoIs lo l) (hlu : l ≤ u) (huy : u ≤ y) (W : World) :
    (Instr.sliceBounds b len y low high none).run P W = .ok (l, u, y) W := by
  cases hi <;> cases high <;> simp only [BV] at h2 <;> cases lo <;> cases low <;> simp only [BV] at h1 <;> dsimp only [HiIs, LoIs] at hh hl
  · subst hh hl; simp [Instr.sliceBounds]
  · obtain ⟨k, rfl⟩ := h1
    subst hh
    rename_i i
    have e1 : i.v ≤ (u : Int) := by omega
    simp [Instr.sliceBounds, Instr.sliceBound, asIntOf, hl.1, e1, hl.2]
  · obtain ⟨k, rfl⟩ := h2
    subst hl
    rename_i i
    have e1 : i.v ≤ (y : Int) := by omega
    simp [Instr.sliceBounds, Instr.sliceBound, asIntOf, hh.1, e1, hh.2]
  · obtain ⟨k, rfl⟩ := h2
    obtain ⟨k', rfl⟩ := h1
    rename_i i j
    have e1 : i.v ≤ (y : Int) := by omega
    have e2 : j.v ≤ (u : Int) := by omega
    simp [Instr.sliceBounds, Instr.sliceBound, asIntOf, hh.1, e1, hh.2, hl.1, e2, hl.2]

theorem ownSub_inv {Q : Ex → St → Prop} : ∀ {id off y len cap sz lo hi K}, (T.prop P G B Q (ownSub id off y len cap sz lo hi K)) → len.v ≤ y.v → (cap = none ∨ cap = some y) → (∃ l u o n, ∃ c : Option N, (T.prop P G B Q (K (.own id o n c sz))) ∧ l < y.v ∧ l ≤ u ∧ u ≤ y.v ∧ o.v = off.v + l * sz ∧ n.v = u - l ∧ (∀ c', c = some c' → c'.v = y.v - l ∧ cap = some y) ∧
    HiIs hi u len.v ∧ LoIs lo l) ∨ (cap = some y ∧ HiIs hi y.v len.v ∧ LoIs lo y.v ∧ (T.prop P G B Q (K .empty))) := by
  intro id off y len cap sz lo hi K h hle hcap
  unfold ownSub at h
  obtain ⟨l, u, h1, h2, h3, h4, h⟩ := boundsT_inv h hle
  cases hcc : cap with
  | some y' =>
    rw [hcc] at h hcap
    dsimp only at h
    rcases hcap with hcap | hcap
    · cases hcap
    cases hcap
    rcases gapN_inv h with ⟨h5, h⟩ | ⟨h5, h⟩
    · obtain ⟨m, hm, h⟩ := mulN_inv h
      obtain ⟨o, ho, h⟩ := addN_inv h
      obtain ⟨n, hn, h⟩ := subN_inv h
      obtain ⟨c, hc, h9⟩ := subN_inv h
      exact .inl ⟨l.v, u.v, o, n, some c, h9, h5, h1, h2, by rw [ho, hm], hn, fun c' e => by cases e; exact ⟨hc, rfl⟩, h3, h4⟩
    · have e1 : l.v = y.v := by omega
      have e2 : u.v = y.v := by omega
      exact .inr ⟨rfl, by rw [← e2]; exact h3, by rw [← e1]; exact h4, h⟩
  | none =>
    rw [hcc] at h
    obtain ⟨h5, h⟩ := ltN_inv h
    obtain ⟨m, hm, h⟩ := mulN_inv h
    obtain ⟨o, ho, h⟩ := addN_inv h
    obtain ⟨n, hn, h⟩ := subN_inv h
    exact .inl ⟨l.v, u.v, o, n, none, h, h5, h1, h2, by rw [ho, hm], hn, fun c' e => (by cases e), h3, h4⟩

theorem slice_sound (hτ : ∀ t ti, τ t = some ti → TIok P t ti) {t x lo hi K} (h : (T.prop P G B Q (sliceT τ t x lo hi K))) : ∃ r, (T.prop P G B Q (K r)) ∧ ∀ Sh W ρ a low high, BV lo low → BV hi high → VR Sh W ρ x a →
    ∃ v, (Instr.sliceAt t a low high none).run P W = .ok v W ∧ VR Sh W ρ r v := by
  have own := @ownSub_inv P G B Q
  cases x with
  | str s =>
    simp only [sliceT] at h
    split at h
    · rename_i hk
      have hu := isK_str hτ hk
      obtain ⟨y, hy, h⟩ := len_inv h
      obtain ⟨l, u, h1, h2, h3, h4, h⟩ := boundsT_inv h (Nat.le_refl _)
      obtain ⟨n, hn, h⟩ := subN_inv h
      obtain ⟨r, hr, h⟩ := sub_inv h
      refine ⟨_, h, fun Sh W ρ a low high b1 b2 ha => ?_⟩
      cases ha with | @str _ _ b ha =>
      have hb := run_bounds (P := P) (len := b.size) (y := b.size) (b := false) b1 b2 (by rw [size_of_str ha, ← hy]; exact h3) h4 h1 (by rw [size_of_str ha, ← hy]; exact h2) W
      refine ⟨.string (b.extract l.v u.v), ?_, .str ?_⟩
      · simp [Instr.sliceAt, run_underlying hu, Instr.slice, hb]
      · rw [hr, Lib.extract_data, ha, hn]
    · exact h.elim
  | nil =>
    simp only [sliceT] at h
    split at h
    · rename_i e he
      obtain ⟨hu, _⟩ := elemOf_inv hτ (e := e.1) (ti := e.2) he
      obtain ⟨l, u, h1, h2, h3, h4, h⟩ := boundsT_inv h (Nat.le_refl _)
      refine ⟨_, h, fun Sh W ρ a low high b1 b2 ha => ?_⟩
      cases ha
      have e1 : u.v = 0 := Nat.le_zero.1 h2
      have e2 : l.v = 0 := by omega
      have hb := run_bounds (P := P) (len := 0) (y := 0) (b := true) (l := 0) (u := 0) b1 b2 (by cases hi <;> simp_all [N.v, HiIs]) (by rw [← e2]; exact h4) (Nat.le_refl _) (Nat.le_refl _) W
      exact ⟨.slice none 0 0, by simp [Instr.sliceAt, run_underlying hu, Instr.slice, hb, run_size (hτ _ _ (elemOf_inv hτ (e := e.1) (ti := e.2) he).2)], .nil⟩
    · exact h.elim
  | seq n cells =>
    simp only [sliceT] at h
    split at h
    · rename_i et e he
      obtain ⟨hu, hte⟩ := elemOf_inv hτ he
      obtain ⟨l, u, h1, h2, h3, h4, h⟩ := boundsT_inv h (Nat.le_refl _)
      obtain ⟨m, hm, h⟩ := subN_inv h
      obtain ⟨o, ho, h⟩ := mulN_inv h
      obtain ⟨c, hc, h⟩ := mulN_inv h
      obtain ⟨hfit, r, hr, h⟩ := subL_inv h
      refine ⟨_, h, fun Sh W ρ a low high b1 b2 ha => ?_⟩
      have zero : n.v = 0 → cells = [] → l.v = 0 ∧ u.v = 0 ∧ m.v = 0 ∧ r.v = [] := fun e1 e2 => by
        refine ⟨by omega, by omega, by omega, ?_⟩
        rw [hr]; simp [e2]
      rcases ha.seq_inv with ⟨rfl, e1, e2⟩ | ⟨ad, rfl, e1, e2⟩ | ha
      · obtain ⟨z1, z2, z3, z4⟩ := zero e1 e2
        have hb := run_bounds (P := P) (len := 0) (y := 0) (b := true) (l := 0) (u := 0) b1 b2 (by have q := h3; rw [z2, e1] at q; exact q) (by have q := h4; rw [z1] at q; exact q) (Nat.le_refl _) (Nat.le_refl _) W
        exact ⟨.slice none 0 0, by simp [Instr.sliceAt, run_underlying hu, Instr.slice, hb, run_size (hτ _ _ hte)], by rw [z4]; exact .seq (.nil z3) .nil⟩
      · obtain ⟨z1, z2, z3, z4⟩ := zero e1 e2
        have hb := run_bounds (P := P) (len := 0) (y := 0) (b := true) (l := 0) (u := 0) b1 b2 (by have q := h3; rw [z2, e1] at q; exact q) (by have q := h4; rw [z1] at q; exact q) (Nat.le_refl _) (Nat.le_refl _) W
        exact ⟨_, by simp [Instr.sliceAt, run_underlying hu, Instr.slice, hb, run_size (hτ _ _ hte)]; rfl, by rw [z4]; exact .seq (.empty z3) .empty⟩
      cases ha with
      | @list _ _ _ _ a cap k vs hm' hn hsp hS hl hcell hv hone =>
      obtain ⟨ab, ao, asp⟩ := a
      dsimp only at hsp hS hcell
      subst hsp hm'
      have hb := run_bounds (P := P) (len := n.v) (y := cap) (b := true) b1 b2 h3 h4 h1 (by omega) W
      refine ⟨.slice (if cap = l.v then some ⟨ab, ao, none⟩ else some ⟨ab, ao + l.v * e.size, none⟩) (u.v - l.v) (cap - l.v), ?_, VR.of_list (b := false) ?_⟩
      · simp [Instr.sliceAt, run_underlying hu, Instr.slice, hb, run_size (hτ _ _ hte), Addr.add_lit']
      · have hrl : r.v.length = (u.v - l.v) * e.size := by rw [hr, List.length_take, List.length_drop]; dsimp only at hfit ⊢; rw [hc, hm]; rw [hc, hm] at hfit; omega
        by_cases hcl : cap = l.v
        · have hul : u.v = l.v := by omega
          have hnil : r.v = [] := by apply List.eq_nil_of_length_eq_zero; rw [hrl, hul]; simp
          rw [if_pos hcl]
          exact .list (vs := []) (by rw [hm]) (by omega) rfl hS (by rw [hnil]; rfl) (fun i v q => by simp at q) (fun i x v p q => by simp at q) (fun v hv => by cases hv)
        · rw [if_neg hcl]
          refine .list (vs := (vs.drop o.v).take c.v) (by rw [hm]) (by omega) rfl hS ?_ ?_ ?_ (fun v hm => hone v (List.mem_of_mem_drop (List.mem_of_mem_take hm)))
          · rw [hr]; simp [hl]
          · intro i v q
            rw [List.getElem?_take] at q
            split at q
            · have := hcell (o.v + i) v (by simpa using q)
              show W.cell? ⟨ab, ao + l.v * e.size + i, none⟩ = _
              rw [← this, ho, Nat.add_assoc]
            · cases q
          · intro i x v p q
            rw [hr, List.getElem?_take] at p
            rw [List.getElem?_take] at q
            by_cases hi : i < c.v
            · rw [if_pos hi] at p q
              exact hv (o.v + i) x v (by simpa using p) (by simpa using q)
            · rw [if_neg hi] at p; cases p
    · exact h.elim
  | list n lit cells =>
    simp only [sliceT] at h
    split at h
    · rename_i et e he
      obtain ⟨hu, hte⟩ := elemOf_inv hτ he
      obtain ⟨l, u, h1, h2, h3, h4, h⟩ := boundsT_inv h (Nat.le_refl _)
      obtain ⟨m, hm, h⟩ := subN_inv h
      obtain ⟨o, ho, h⟩ := mulN_inv h
      obtain ⟨c, hc, h⟩ := mulN_inv h
      obtain ⟨hfit, r, hr, h⟩ := subL_inv h
      refine ⟨_, h, fun Sh W ρ a low high b1 b2 ha => ?_⟩
      cases ha with
      | @list _ _ _ _ a cap k vs hm' hn hsp hS hl hcell hv hone =>
      obtain ⟨ab, ao, asp⟩ := a
      dsimp only at hsp hS hcell
      subst hsp hm'
      have hb := run_bounds (P := P) (len := n.v) (y := cap) (b := true) b1 b2 h3 h4 h1 (by omega) W
      refine ⟨.slice (if cap = l.v then some ⟨ab, ao, none⟩ else some ⟨ab, ao + l.v * e.size, none⟩) (u.v - l.v) (cap - l.v), ?_, ?_⟩
      · simp [Instr.sliceAt, run_underlying hu, Instr.slice, hb, run_size (hτ _ _ hte), Addr.add_lit']
      · have hrl : r.v.length = (u.v - l.v) * e.size := by rw [hr, List.length_take, List.length_drop]; dsimp only at hfit ⊢; rw [hc, hm]; rw [hc, hm] at hfit; omega
        by_cases hcl : cap = l.v
        · have hul : u.v = l.v := by omega
          have hnil : r.v = [] := by apply List.eq_nil_of_length_eq_zero; rw [hrl, hul]; simp
          rw [if_pos hcl]
          exact .list (vs := []) (by rw [hm]) (by omega) rfl hS (by rw [hnil]; rfl) (fun i v q => by simp at q) (fun i x v p q => by simp at q) (fun v hv => by cases hv)
        · rw [if_neg hcl]
          refine .list (vs := (vs.drop o.v).take c.v) (by rw [hm]) (by omega) rfl hS ?_ ?_ ?_ (fun v hm => hone v (List.mem_of_mem_drop (List.mem_of_mem_take hm)))
          · rw [hr]; simp [hl]
          · intro i v q
            rw [List.getElem?_take] at q
            split at q
            · have := hcell (o.v + i) v (by simpa using q)
              show W.cell? ⟨ab, ao + l.v * e.size + i, none⟩ = _
              rw [← this, ho, Nat.add_assoc]
            · cases q
          · intro i x v p q
            rw [hr, List.getElem?_take] at p
            rw [List.getElem?_take] at q
            by_cases hi : i < c.v
            · rw [if_pos hi] at p q
              exact hv (o.v + i) x v (by simpa using p) (by simpa using q)
            · rw [if_neg hi] at p; cases p
    · exact h.elim
  | own id off len cap sz =>
   cases cap with
   | some c =>
    simp only [sliceT] at h
    split at h
    · rename_i et e he
      obtain ⟨hu, hte⟩ := elemOf_inv hτ he
      split at h
      · rename_i hsz
        obtain ⟨hlc, h⟩ := leN_inv h
        · rcases own h hlc (.inr rfl) with ⟨l, u, o, n, c', h, h1, h2, h3, h4, h5, h6, h7, h8⟩ | ⟨_, h7, h8, h⟩
          rotate_left
          · refine ⟨_, h, fun Sh W ρ a low high b1 b2 ha => ?_⟩
            cases ha with
            | @own _ _ _ _ _ _ bb cap k oo cs e0 fr0 hm ho hr hb hcap hlen hfit =>
            have hcc := hcap c rfl
            subst hm ho
            have hbd := run_bounds (P := P) (len := len.v) (y := cap) (l := c.v) (u := c.v) (b := true) b1 b2 h7 h8 (Nat.le_refl _) (by omega) W
            exact ⟨_, by simp [Instr.sliceAt, run_underlying hu, Instr.slice, hbd, run_size (hτ _ _ hte), hcc]; rfl, .empty⟩
          refine ⟨_, h, fun Sh W ρ a low high b1 b2 ha => ?_⟩
          cases ha with
          | @own _ _ _ _ _ _ bb cap k oo cs e0 fr0 hm ho hr hb hcap hlen hfit =>
          have hcc := hcap c rfl
          subst hm ho
          have hbd := run_bounds (P := P) (len := len.v) (y := cap) (b := true) b1 b2 h7 h8 h2 (by omega) W
          refine ⟨.slice (some ⟨bb, off.v + l * sz, none⟩) (u - l) (cap - l), ?_, ?_⟩
          · simp [Instr.sliceAt, run_underlying hu, Instr.slice, hbd, run_size (hτ _ _ hte), Addr.add_lit', show ¬ cap = l from by omega, hsz]
          · refine .own h5 h4 hr hb (fun c'' e => by rw [(h6 c'' e).1]; omega) (by omega) ?_
            have : l * sz + (cap - l) * sz = cap * sz := by rw [← Nat.add_mul]; congr 1; omega
            omega
      · exact h.elim
    · exact h.elim
   | none =>
    simp only [sliceT] at h
    split at h
    · rename_i et e he
      obtain ⟨hu, hte⟩ := elemOf_inv hτ he
      split at h
      · rename_i hsz
        obtain ⟨l, u, o, n, c', h, h1, h2, h3, h4, h5, h6, h7, h8⟩ : _ := (own h (Nat.le_refl _) (.inl rfl)).resolve_right fun q => by cases q.1
        refine ⟨_, h, fun Sh W ρ a low high b1 b2 ha => ?_⟩
        cases ha with
        | @own _ _ _ _ _ _ bb cap k oo cs e0 fr0 hm ho hr hb hcap hlen hfit =>
        subst hm ho
        have hbd := run_bounds (P := P) (len := len.v) (y := cap) (b := true) b1 b2 h7 h8 h2 (by omega) W
        refine ⟨.slice (some ⟨bb, off.v + l * sz, none⟩) (u - l) (cap - l), ?_, ?_⟩
        · simp [Instr.sliceAt, run_underlying hu, Instr.slice, hbd, run_size (hτ _ _ hte), Addr.add_lit', show ¬ cap = l from by omega, hsz]
        · refine .own h5 h4 hr hb (fun c'' e => by have := (h6 c'' e).2; cases this) (by omega) ?_
          have : l * sz + (cap - l) * sz = cap * sz := by rw [← Nat.add_mul]; congr 1; omega
          omega
      · exact h.elim
    · exact h.elim
  | _ => exact h.elim
theorem sliceH_sound (hτ : ∀ t ti, τ t = some ti → TIok P t ti) {H t x lo hi K} (h : (T.prop P G B Q (sliceH τ H t x lo hi K))) : ∃ r, (T.prop P G B Q (K r)) ∧ ∀ Sh W ρ a low high, LR Sh W ρ H → BV lo low → BV hi high → VR Sh W ρ x a →
    ∃ v, (Instr.sliceAt t a low high none).run P W = .ok v W ∧ VR Sh W ρ r v := by
  unfold sliceH at h
  split at h
  · rename_i id off
    split at h
    · rename_i n et e he
      obtain ⟨hu, hte⟩ := arrayOf_inv hτ he
      obtain ⟨⟨l, sh⟩, hb, h⟩ := heapT_inv h
      obtain ⟨hfit, h⟩ := fitL_inv h
      have hfit : off.v + n * e.size ≤ l.v.length := hfit
      rcases ownSub_inv h (Nat.le_refl _) (.inr rfl) with ⟨l', u, o, n', c', h, h1, h2, h3, h4, h5, h6, h7, h8⟩ | ⟨_, h7, h8, h⟩
      rotate_left
      · refine ⟨_, h, fun Sh W ρ a low high hL b1 b2 ha => ?_⟩
        cases ha with
        | @ptr _ _ _ b o hr ho =>
        have hbd := run_bounds (P := P) (len := n) (y := n) (l := n) (u := n) (b := false) b1 b2 h7 h8 (Nat.le_refl _) (Nat.le_refl _) W
        exact ⟨_, by simp [Instr.sliceAt, Instr.sureAddr, run_underlying hu, hbd, run_size (hτ _ _ hte)]; rfl, .empty⟩
      refine ⟨_, h, fun Sh W ρ a low high hL b1 b2 ha => ?_⟩
      cases ha with
      | @ptr _ _ _ b oo hr ho =>
      subst ho
      obtain ⟨cs, et', fr, q1, q2, q3, q4⟩ := hL id l sh b hb hr
      have h1 : l' < n := h1
      have h3 : u ≤ n := h3
      have hbd := run_bounds (P := P) (len := n) (y := n) (b := false) b1 b2 h7 h8 h2 h3 W
      refine ⟨.slice (some ⟨b, off.v + l' * e.size, none⟩) (u - l') (n - l'), ?_, ?_⟩
      · simp [Instr.sliceAt, Instr.sureAddr, run_underlying hu, hbd, run_size (hτ _ _ hte), Addr.add_lit', show ¬ n = l' from by omega]
      · refine .own h5 h4 hr q1 (fun c'' e => (h6 c'' e).1) (by omega) ?_
        have : l' * e.size + (n - l') * e.size = n * e.size := by rw [← Nat.add_mul]; congr 1; omega
        omega
    · exact h.elim
  · obtain ⟨r, hr, hq⟩ := slice_sound hτ h
    exact ⟨r, hr, fun Sh W ρ a low high _ b1 b2 ha => hq Sh W ρ a low high b1 b2 ha⟩
end
end Go.Ax
