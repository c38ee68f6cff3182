/-
  The small abstract machine: the last of the operations that leave the memory as it is.
-/
import Derived.Test.YtcohbcdhcmajiaaDoorAx7
namespace Go.Ax
open Go.RowKit
set_option linter.unusedVariables false

section
variable {P : Program} {G : Nat → Option (List AV)} {B : Nat} {Q : Ex → St → Prop} {τ : Tys}

theorem VRL.of_none {Sh W l vs} (h : VRL Sh W (fun _ => none) l vs) (ρ : Rho) : VRL Sh W ρ l vs := ⟨h.1, fun i x v p q => (h.2 i x v p q).of_none ρ⟩
theorem ba_ext {a b : ByteArray} (h : a.data.toList = b.data.toList) : a = b := by
  obtain ⟨a⟩ := a; obtain ⟨b⟩ := b
  exact congrArg ByteArray.mk (Array.ext' h)

theorem slice0_sound (hτ : ∀ t ti, τ t = some ti → TIok P t ti) {t x lo hi mx K} (h : (T.prop P G B Q (slice0T τ t x lo hi mx K))) : ∃ r, (T.prop P G B Q (K r)) ∧ ∀ Sh W ρ a low high max, BV lo low → BV (some hi) (some high) → BV (some mx) (some max) → VR Sh W ρ x a →
    ∃ v, (Instr.sliceAt t a low (some high) (some max)).run P W = .ok v W ∧ VR Sh W ρ r v := by
  have bd : ∀ {lo : Option I} {low : Option Value}, (lo = none ∨ lo = some (.lit 0)) → BV lo low → ∀ k k' b n c W, (Instr.sliceBounds b n c low (some (.int k 0)) (some (.int k' 0))).run P W = .ok (0, 0, 0) W := by
    intro lo low hlo hb k k' b n c W
    rcases hlo with rfl | rfl
    · cases low with
      | none => simp [Instr.sliceBounds, Instr.sliceBound, asIntOf]
      | some v => exact hb.elim
    · cases low with
      | none => exact hb.elim
      | some v => obtain ⟨kk, rfl⟩ := hb; simp [Instr.sliceBounds, Instr.sliceBound, asIntOf, I.v]
  have key : ∀ {lo : Option I}, (lo = none ∨ lo = some (.lit 0)) → (T.prop P G B Q (match (generalizing := false) elemOf τ t, x with
    | some _, .nil => K .nil
    | some _, .list _ _ _ => K .empty
    | some _, .own _ _ _ _ _ => K .empty
    | some _, .empty => K .empty
    | _, _ => .fail)) → ∃ r, (T.prop P G B Q (K r)) ∧ ∀ Sh W ρ a low high max, BV lo low → BV (some (.lit 0)) (some high) → BV (some (.lit 0)) (some max) → VR Sh W ρ x a →
    ∃ v, (Instr.sliceAt t a low (some high) (some max)).run P W = .ok v W ∧ VR Sh W ρ r v := by
    intro lo hlo h
    cases he : elemOf τ t with
    | none => rw [he] at h; cases x <;> exact h.elim
    | some e =>
      obtain ⟨hu, hte⟩ := elemOf_inv hτ (e := e.1) (ti := e.2) he
      have sz := run_size (hτ _ _ hte)
      rw [he] at h
      cases x with
      | nil =>
        refine ⟨_, h, fun Sh W ρ a low high max b1 b2 b3 ha => ?_⟩
        obtain ⟨k, rfl⟩ := b2; obtain ⟨k', rfl⟩ := b3
        cases ha
        exact ⟨.slice none 0 0, by simp [Instr.sliceAt, run_underlying hu, Instr.slice, I.v, bd hlo b1, sz], .nil⟩
      | empty =>
        refine ⟨_, h, fun Sh W ρ a low high max b1 b2 b3 ha => ?_⟩
        obtain ⟨k, rfl⟩ := b2; obtain ⟨k', rfl⟩ := b3
        cases ha
        exact ⟨_, by simp [Instr.sliceAt, run_underlying hu, Instr.slice, I.v, bd hlo b1, sz]; rfl, .empty⟩
      | list n lit cells =>
        refine ⟨_, h, fun Sh W ρ a low high max b1 b2 b3 ha => ?_⟩
        obtain ⟨k, rfl⟩ := b2; obtain ⟨k', rfl⟩ := b3
        cases ha
        exact ⟨_, by simp [Instr.sliceAt, run_underlying hu, Instr.slice, I.v, bd hlo b1, sz]; rfl, .empty⟩
      | own =>
        refine ⟨_, h, fun Sh W ρ a low high max b1 b2 b3 ha => ?_⟩
        obtain ⟨k, rfl⟩ := b2; obtain ⟨k', rfl⟩ := b3
        cases ha
        exact ⟨_, by simp [Instr.sliceAt, run_underlying hu, Instr.slice, I.v, bd hlo b1, sz]; rfl, .empty⟩
      | _ => exact h.elim
  unfold slice0T at h
  split at h
  · exact key (.inl rfl) h
  · exact key (.inr rfl) h
  · exact h.elim

theorem addr_add (a : Addr) (h : a.spot = none) (n : Nat) : a.add n = ⟨a.block, a.off + n, none⟩ := by
  obtain ⟨b, o, s⟩ := a; dsimp only at h; subst h; exact Addr.add_lit' b o n

theorem indexAddr_sound (hτ : ∀ t ti, τ t = some ti → TIok P t ti) {H t x i K} (h : (T.prop P G B Q (indexAddrT τ H t x i K))) : ∃ r, (T.prop P G B Q (K r)) ∧ ∀ Sh W ρ a k, VR Sh W ρ x a → ∃ v, (Instr.indexAt t a (.int k i.v)).run P W = .ok v W ∧ VR Sh W ρ r v := by
  have ix : ∀ {e : TI} {et : Nat}, τ et = some e → ∀ W, (Go.sizeOf et).run P W = .ok e.size W := fun he W => run_size (hτ _ _ he) W
  cases x with
  | list n lit cells =>
    simp only [indexAddrT] at h
    split at h
    · rename_i et e he
      obtain ⟨hu, hte⟩ := elemOf_inv hτ he
      obtain ⟨⟨h1, h2⟩, r, hr, h⟩ := placeX_inv h
      refine ⟨_, h, fun Sh W ρ a k ha => ?_⟩
      cases ha with
      | @list _ _ _ _ a cap m vs hm hn hsp hS hl hc hv hone =>
      subst hm
      refine ⟨.pointer (some (a.add (i.v.toNat * e.size))), by simp [Instr.indexAt, asIntOf, run_underlying hu, h1, h2, ix hte], ?_⟩
      rw [addr_add a hsp]
      have hr' : r.v = i.v.toNat * e.size := by rw [hr]; simp [N.v]
      exact .ref (vs := vs) rfl hS (by show r.v ≤ a.off + _; omega) hl (fun j v q => by
        show W.cell? ⟨a.block, a.off + i.v.toNat * e.size - r.v + j, none⟩ = _
        rw [show a.off + i.v.toNat * e.size - r.v = a.off by omega]; exact hc j v q) hv hone
    · exact h.elim
  | seq n cells =>
    simp only [indexAddrT] at h
    split at h
    · rename_i et e he
      obtain ⟨hu, hte⟩ := elemOf_inv hτ he
      obtain ⟨⟨h1, h2⟩, r, hr, h⟩ := placeT_inv h
      refine ⟨_, h, fun Sh W ρ a k ha => ?_⟩
      rcases ha.seq_inv with ⟨rfl, e1, e2⟩ | ⟨ad, rfl, e1, e2⟩ | ha
      · omega
      · omega
      cases ha with
      | @list _ _ _ _ a cap m vs hm hn hsp hS hl hc hv hone =>
      subst hm
      refine ⟨.pointer (some (a.add (i.v.toNat * e.size))), by simp [Instr.indexAt, asIntOf, run_underlying hu, h1, h2, ix hte], ?_⟩
      rw [addr_add a hsp]
      have hr' : r.v = i.v.toNat * e.size := by rw [hr]; simp [N.v]
      exact .ref (vs := vs) rfl hS (by show r.v ≤ a.off + _; omega) hl (fun j v q => by
        show W.cell? ⟨a.block, a.off + i.v.toNat * e.size - r.v + j, none⟩ = _
        rw [show a.off + i.v.toNat * e.size - r.v = a.off by omega]; exact hc j v q) hv hone
    · exact h.elim
  | own id off len cap sz =>
    simp only [indexAddrT] at h
    split at h
    · rename_i et e he
      obtain ⟨hu, hte⟩ := elemOf_inv hτ he
      split at h
      · rename_i hsz
        obtain ⟨⟨h1, h2⟩, r, hr, h⟩ := placeX_inv h
        refine ⟨_, h, fun Sh W ρ a k ha => ?_⟩
        cases ha with
        | @own _ _ _ _ _ _ bb cap k oo cs e0 fr0 hm ho hr' hb hcap hlen hfit =>
        subst hm ho
        exact ⟨.pointer (some ⟨bb, off.v + i.v.toNat * e.size, none⟩), by simp [Instr.indexAt, asIntOf, run_underlying hu, h1, h2, ix hte, Addr.add_lit'], .ptr hr' hr⟩
      · exact h.elim
    · exact h.elim
  | acc id len sz =>
    simp only [indexAddrT] at h
    split at h
    · rename_i et e he
      obtain ⟨hu, hte⟩ := elemOf_inv hτ he
      split at h
      · rename_i hsz
        obtain ⟨⟨h1, h2⟩, r, hr, h⟩ := placeT_inv h
        refine ⟨_, h, fun Sh W ρ a k ha => ?_⟩
        rcases ha.acc_inv with ⟨_, h0⟩ | ha
        · omega
        cases ha with
        | @own _ _ _ _ _ _ bb cap k oo cs e0 fr0 hm ho hr' hb hcap hlen hfit =>
        subst hm ho
        exact ⟨.pointer (some ⟨bb, (N.lit 0).v + i.v.toNat * e.size, none⟩), by simp [Instr.indexAt, asIntOf, run_underlying hu, h1, h2, ix hte, Addr.add_lit'], .ptr hr' hr⟩
      · exact h.elim
    · exact h.elim
  | ptr id off =>
    simp only [indexAddrT] at h
    split at h
    · rename_i n et e he
      obtain ⟨hu, hte⟩ := arrayOf_inv hτ he
      obtain ⟨⟨h1, h2⟩, r, hr, h⟩ := placeX_inv h
      refine ⟨_, h, fun Sh W ρ a k ha => ?_⟩
      cases ha with
      | @ptr _ _ _ b o hr' ho =>
      subst ho
      have h2' : i.v < (n : Int) := h2
      exact ⟨.pointer (some ⟨b, off.v + i.v.toNat * e.size, none⟩), by simp [Instr.indexAt, Instr.sureAddr, asIntOf, run_underlying hu, h1, h2', ix hte, Addr.add_lit'], .ptr hr' hr⟩
    · exact h.elim
  | ref lit cells off =>
    simp only [indexAddrT] at h
    split at h
    · rename_i n et e he
      obtain ⟨hu, hte⟩ := arrayOf_inv hτ he
      obtain ⟨⟨h1, h2⟩, r, hr, h⟩ := placeX_inv h
      refine ⟨_, h, fun Sh W ρ a k ha => ?_⟩
      cases ha with
      | @ref _ _ _ _ a vs hsp hS ho hl hc hv hone =>
      have h2' : i.v < (n : Int) := h2
      refine ⟨.pointer (some (a.add (i.v.toNat * e.size))), by simp [Instr.indexAt, Instr.sureAddr, asIntOf, run_underlying hu, h1, h2', ix hte], ?_⟩
      rw [addr_add a hsp]
      exact .ref (vs := vs) rfl hS (by show r.v ≤ a.off + _; omega) hl (fun j v q => by
        show W.cell? ⟨a.block, a.off + i.v.toNat * e.size - r.v + j, none⟩ = _
        rw [show a.off + i.v.toNat * e.size - r.v = a.off - off.v by omega]; exact hc j v q) hv hone
    · exact h.elim
  | _ => exact h.elim

theorem ba_get {b : ByteArray} {l : List UInt8} (h : b.data.toList = l) {i : Nat} (hi : i < l.length) : b[i]? = some (l.getD i 0) := by
  have hs : i < b.size := by show i < b.data.size; rw [← Array.length_toList, h]; exact hi
  rw [ByteArray.getElem?_lt' b i hs]
  have : b[i] = b.data[i]'hs := rfl
  rw [this, List.getD_eq_getElem?_getD, ← h, Array.getElem?_toList, Array.getElem?_eq_getElem hs]
  rfl

theorem index_sound (hτ : ∀ t ti, τ t = some ti → TIok P t ti) {t x i K} (h : (T.prop P G B Q (indexT τ t x i K))) : ∃ r, (T.prop P G B Q (K r)) ∧ ∀ Sh W ρ a k, VR Sh W ρ x a → ∃ v, (Instr.index t a (.int k i.v)).run P W = .ok v W ∧ VR Sh W ρ r v := by
  cases x with
  | agg lit cells =>
    simp only [indexT] at h
    split at h
    · rename_i n et e he
      obtain ⟨hu, hte⟩ := arrayOf_inv hτ he
      obtain ⟨⟨h1, h2⟩, r, hr, h⟩ := placeX_inv h
      obtain ⟨x, hx, hp⟩ := part_sound hτ h
      refine ⟨_, hx, fun Sh W ρ a k ha => ?_⟩
      cases ha with
      | @agg _ _ _ vs hl hv hone =>
      obtain ⟨v, r1, r2⟩ := hp Sh W ρ vs hv (by show cells.length ≤ _; omega) hone
      have h2' : i.v < (n : Int) := h2
      have hr' : r.v = i.v.toNat * e.size := by rw [hr]; simp [N.v]
      refine ⟨v, ?_, r2⟩
      rw [hr'] at r1
      simp [Instr.index, asIntOf, run_underlying hu, h1, h2', run_size (hτ _ _ hte), r1]
    · exact h.elim
  | str s =>
    simp only [indexT] at h
    split at h
    · rename_i hk
      have hu := isK_str hτ hk
      obtain ⟨n, hn, h⟩ := len_inv h
      obtain ⟨⟨h1, h2⟩, h⟩ := ltI_inv h
      obtain ⟨j, hj, h⟩ := natI_inv h
      obtain ⟨r, hr, h⟩ := get_inv h
      refine ⟨_, h, fun Sh W ρ a k ha => ?_⟩
      cases ha with | @str _ _ b ha =>
      refine ⟨.int .u8 (s.v.getD i.v.toNat 0).toNat, ?_, .int (by rw [hr, hj])⟩
      simp [Instr.index, asIntOf, run_underlying hu, h1, ba_get ha (show i.v.toNat < s.v.length by omega)]
    · exact h.elim
  | _ => exact h.elim

theorem src_sound {H sz x K} (h : (T.prop P G B Q (srcT H sz x K))) : ∃ n l, (T.prop P G B Q (K n l)) ∧ l.v.length = n.v * sz ∧ ∀ Sh W ρ a, LR Sh W ρ H → VR Sh W ρ x a →
    ∃ vs : List Value, VRL Sh W ρ l.v vs ∧ (∀ v ∈ vs, v.oneCell' = true) ∧ ∀ w : World, w.heap = W.heap → (Builtin.lenOf a).run P w = .ok n.v w ∧ (Builtin.firstCells sz n.v a).run P w = .ok vs.toArray w := by
  cases x with
  | nil =>
    refine ⟨_, _, h, by simp [N.v], fun Sh W ρ a hL ha => ?_⟩
    cases ha
    exact ⟨[], .nil, (fun v hv => by cases hv), fun w hw => ⟨rfl, rfl⟩⟩
  | empty =>
    refine ⟨_, _, h, by simp [N.v], fun Sh W ρ a hL ha => ?_⟩
    cases ha
    refine ⟨[], .nil, (fun v hv => by cases hv), fun w hw => ⟨rfl, ?_⟩⟩
    simp [Builtin.firstCells, N.v, loadCells, loadCellsFrom]
  | list n lit cells =>
    simp only [srcT] at h
    obtain ⟨m, hm, h⟩ := mulN_inv h
    obtain ⟨hl, h⟩ := sizeL_inv h
    refine ⟨_, _, h, by rw [hl, hm], fun Sh W ρ a hL ha => ?_⟩
    cases ha with
    | @list _ _ _ _ a cap k vs hm' hn hsp hS hl' hc hv hone =>
    subst hm'
    refine ⟨vs, VRL.of_none ⟨hl', hv⟩ ρ, hone, fun w hw => ⟨rfl, ?_⟩⟩
    exact run_firstCells_some (P := P) (w := w) sz n.v a n.v cap vs (by rw [hl']; dsimp only at hl; omega) (fun j v q => by
      rw [addr_add a hsp, cell_of_heap (W := W) (by rw [hw])]; exact hc j v q)
  | seq n cells =>
    simp only [srcT] at h
    obtain ⟨m, hm, h⟩ := mulN_inv h
    obtain ⟨hl, h⟩ := sizeL_inv h
    refine ⟨_, _, h, by rw [hl, hm], fun Sh W ρ a hL ha => ?_⟩
    rcases ha.seq_inv with ⟨rfl, e1, e2⟩ | ⟨ad, rfl, e1, e2⟩ | ha
    · subst e2
      exact ⟨[], .nil, (fun v hv => by cases hv), fun w hw => by rw [e1]; exact ⟨rfl, rfl⟩⟩
    · subst e2
      refine ⟨[], .nil, (fun v hv => by cases hv), fun w hw => by rw [e1]; exact ⟨rfl, by simp [Builtin.firstCells, loadCells, loadCellsFrom]⟩⟩
    cases ha with
    | @list _ _ _ _ a cap k vs hm' hn hsp hS hl' hc hv hone =>
    subst hm'
    refine ⟨vs, VRL.of_none ⟨hl', hv⟩ ρ, hone, fun w hw => ⟨rfl, ?_⟩⟩
    exact run_firstCells_some (P := P) (w := w) sz n.v a n.v cap vs (by rw [hl']; dsimp only at hl; omega) (fun j v q => by
      rw [addr_add a hsp, cell_of_heap (W := W) (by rw [hw])]; exact hc j v q)
  | acc id len z =>
    simp only [srcT] at h
    split at h
    · rename_i hz
      obtain ⟨⟨l, sh⟩, hb, h⟩ := heapT_inv h
      obtain ⟨m, hm, h⟩ := mulN_inv h
      obtain ⟨hl, h⟩ := sizeL_inv h
      dsimp only at hl h
      refine ⟨_, _, h, by rw [hl, hm], fun Sh W ρ a hL ha => ?_⟩
      rcases ha.acc_inv with ⟨rfl, h0⟩ | ha
      · have : l.v = [] := List.eq_nil_of_length_eq_zero (by rw [hl, hm, h0, Nat.zero_mul])
        rw [this]
        exact ⟨[], .nil, (fun v hv => by cases hv), fun w hw => by rw [h0]; exact ⟨rfl, rfl⟩⟩
      cases ha with
      | @own _ _ _ _ _ _ bb cap k oo cs e0 fr0 hm' ho hr' hb' hcap hlen hfit' =>
      subst hm'
      obtain rfl : 0 = oo := ho
      obtain ⟨cs', e, fr, h1, h2, h3, h4⟩ := hL id l sh bb hb hr'
      have hcs : W.heap[bb]? = some (.cells cs' e fr) := h1
      have hvs : VRL Sh W ρ l.v (cs'.toList.take l.v.length) := by
        refine ⟨by simp; omega, fun i x v p q => ?_⟩
        rw [List.getElem?_take] at q
        split at q
        · exact h3 i x v p (by simpa using q)
        · cases q
      refine ⟨cs'.toList.take l.v.length, hvs, ?_, fun w hw => ⟨rfl, ?_⟩⟩
      · intro v hm
        obtain ⟨i, hi⟩ := List.mem_iff_getElem?.1 (List.mem_of_mem_take hm)
        exact h4 i v (by simpa using hi)
      · refine run_firstCells_some (P := P) (w := w) sz len.v ⟨bb, 0, none⟩ len.v cap _ (by rw [hvs.1, hl, hm]) (fun j v q => ?_)
        rw [Addr.add_lit', cell_of_row (by rw [hw]; exact hcs)]
        rw [List.getElem?_take] at q
        split at q
        · simpa using q
        · cases q
    · exact h.elim
  | own id off len cap z =>
    simp only [srcT] at h
    split at h
    · rename_i hz
      obtain ⟨⟨l, sh⟩, hb, h⟩ := heapT_inv h
      obtain ⟨m, hm, h⟩ := mulN_inv h
      obtain ⟨hfit, r, hr, h⟩ := subL_inv h
      refine ⟨_, _, h, by rw [hr, List.length_take, List.length_drop]; dsimp only at hfit ⊢; omega, fun Sh W ρ a hL ha => ?_⟩
      cases ha with
      | @own _ _ _ _ _ _ bb cap k oo cs e0 fr0 hm' ho hr' hb' hcap hlen hfit' =>
      subst hm' ho
      obtain ⟨cs', e, fr, h1, h2, h3, h4⟩ := hL id l sh bb hb hr'
      have hcs : W.heap[bb]? = some (.cells cs' e fr) := h1
      dsimp only at hfit hr
      have hvs : VRL Sh W ρ r.v ((cs'.toList.drop off.v).take m.v) := by
        rw [hr]
        refine ⟨by simp; omega, fun i x v p q => ?_⟩
        rw [List.getElem?_take] at p q
        by_cases hi : i < m.v
        · rw [if_pos hi] at p q
          exact h3 (off.v + i) x v (by simpa using p) (by simpa using q)
        · rw [if_neg hi] at p; cases p
      refine ⟨(cs'.toList.drop off.v).take m.v, hvs, ?_, fun w hw => ⟨rfl, ?_⟩⟩
      · intro v hm
        obtain ⟨i, hi⟩ := List.mem_iff_getElem?.1 (List.mem_of_mem_drop (List.mem_of_mem_take hm))
        exact h4 i v (by simpa using hi)
      · refine run_firstCells_some (P := P) (w := w) sz len.v ⟨bb, off.v, none⟩ len.v cap _ (by rw [hvs.1, hr]; simp; omega) (fun j v q => ?_)
        rw [Addr.add_lit', cell_of_row (by rw [hw]; exact hcs)]
        rw [List.getElem?_take] at q
        by_cases hi : j < m.v
        · rw [if_pos hi] at q; simpa using q
        · rw [if_neg hi] at q; cases q
    · exact h.elim
  | str s =>
    simp only [srcT] at h
    split at h
    · rename_i hz
      obtain ⟨n, hn, h⟩ := len_inv h
      obtain ⟨l, hl, h⟩ := byteL_inv h
      refine ⟨_, _, h, by rw [hl, hn, hz]; simp [byteCells], fun Sh W ρ a hL ha => ?_⟩
      cases ha with | @str _ _ b ha =>
      refine ⟨s.v.map fun c => .int .u8 c.toNat, ?_, ?_, fun w hw => ⟨by rw [hn, ← size_of_str ha]; rfl, ?_⟩⟩
      · rw [hl]
        refine ⟨by simp [byteCells], fun i x v p q => ?_⟩
        simp only [byteCells, List.getElem?_map, Option.map_eq_some_iff] at p q
        obtain ⟨c, hc, rfl⟩ := p
        obtain ⟨c', hc', rfl⟩ := q
        rw [hc] at hc'; cases hc'
        exact .int rfl
      · intro v hv
        obtain ⟨c, _, rfl⟩ := List.mem_map.1 hv
        rfl
      · have hx : b.extract 0 n.v = b := by
          apply ba_ext
          rw [Lib.extract_data, hn, ← ha]
          simp only [Nat.sub_zero, List.drop_zero]
          exact List.take_of_length_le (Nat.le_refl _)
        simp only [Builtin.firstCells, hx]
        have e : b.data.map (fun c => Value.int .u8 (c.toNat : Int)) = (s.v.map fun c => Value.int .u8 (c.toNat : Int)).toArray := by
          apply Array.ext'
          rw [← ha]; simp
        exact congrArg (fun z => Result.ok z w) e
    · exact h.elim
  | _ => exact h.elim
end
end Go.Ax
