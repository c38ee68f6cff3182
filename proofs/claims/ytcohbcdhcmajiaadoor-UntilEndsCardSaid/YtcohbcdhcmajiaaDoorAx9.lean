/-
  The small abstract machine: structs and arrays that are made, conversions; all operations that leave the memory as it is.
-/
import Derived.Test.YtcohbcdhcmajiaaDoorAx8
import Derived.Laws.BytesString
namespace Go.Ax
open Go.RowKit
set_option linter.unusedVariables false

section
variable {P : Program} {G : Nat → Option (List AV)} {B : Nat} {Q : Ex → St → Prop} {τ : Tys}

theorem cellsT_inv {x K} (h : (T.prop P G B Q (cellsT x K))) : ∃ l, (T.prop P G B Q (K l)) ∧ ∀ Sh W ρ v, VR Sh W ρ x v → VRL Sh W ρ l.v v.cells.toList ∧ (∀ w ∈ v.cells.toList, w.oneCell' = true) := by
  cases x with
  | tuple => exact h.elim
  | agg b cs =>
    refine ⟨_, h, fun Sh W ρ v hv => ?_⟩
    cases hv with | agg hl hv h1 =>
    exact ⟨.to_array hl hv, fun w hw => by obtain ⟨i, hi⟩ := List.mem_iff_getElem?.1 hw; exact h1 i w (by simpa [Value.cells] using hi)⟩
  | seq n cells =>
    refine ⟨_, h, fun Sh W ρ v hv => ?_⟩
    have hs : ∃ a m c, v = .slice a m c := by
      rcases hv.seq_inv with ⟨rfl, _⟩ | ⟨_, rfl, _⟩ | h
      · exact ⟨_, _, _, rfl⟩
      · exact ⟨_, _, _, rfl⟩
      · cases h; exact ⟨_, _, _, rfl⟩
    obtain ⟨a, m, c, rfl⟩ := hs
    exact ⟨.cons hv .nil, fun w hw => by simp [Value.cells] at hw; subst hw; rfl⟩
  | acc id len sz =>
    refine ⟨_, h, fun Sh W ρ v hv => ?_⟩
    have hs : ∃ a m c, v = .slice a m c := by
      rcases hv.acc_inv with ⟨rfl, _⟩ | h
      · exact ⟨_, _, _, rfl⟩
      · cases h; exact ⟨_, _, _, rfl⟩
    obtain ⟨a, m, c, rfl⟩ := hs
    exact ⟨.cons hv .nil, fun w hw => by simp [Value.cells] at hw; subst hw; rfl⟩
  | buf id len ty =>
    refine ⟨_, h, fun Sh W ρ v hv => ?_⟩
    have hs : ∃ a m c, v = .slice a m c := by
      cases hv with | buf hv =>
      rcases hv.acc_inv with ⟨rfl, _⟩ | h
      · exact ⟨_, _, _, rfl⟩
      · cases h; exact ⟨_, _, _, rfl⟩
    obtain ⟨a, m, c, rfl⟩ := hs
    exact ⟨.cons hv .nil, fun w hw => by simp [Value.cells] at hw; subst hw; rfl⟩
  | apt id ty =>
    refine ⟨_, h, fun Sh W ρ v hv => ?_⟩
    have hs : ∃ p, v = .pointer p := by
      cases hv with | apt _ _ _ hv =>
      rcases hv with rfl | rfl
      · exact ⟨_, rfl⟩
      · exact ⟨_, rfl⟩
    obtain ⟨p, rfl⟩ := hs
    exact ⟨.cons hv .nil, fun w hw => by simp [Value.cells] at hw; subst hw; rfl⟩
  | _ =>
    refine ⟨_, h, fun Sh W ρ v hv => ?_⟩
    have hv' := hv
    cases hv <;> exact ⟨.cons hv' .nil, fun w hw => by simp [Value.cells] at hw; subst hw; rfl⟩

theorem length_write {α : Type} {l : List α} {off : Nat} {m : List α} (h : off + m.length ≤ l.length) : (write l off m).length = l.length := by
  simp [write]; omega
theorem getElem?_write {α : Type} {l : List α} {off : Nat} {m : List α} (h : off + m.length ≤ l.length) (i : Nat) : (write l off m)[i]? = if i < off then l[i]? else if i < off + m.length then m[i - off]? else l[i]? := by
  have ht : (l.take off).length = off := by simp; omega
  unfold write
  rw [List.append_assoc]
  by_cases h1 : i < off
  · rw [if_pos h1, List.getElem?_append_left (by rw [ht]; exact h1), List.getElem?_take, if_pos h1]
  · rw [if_neg h1, List.getElem?_append_right (by rw [ht]; omega), ht]
    by_cases h2 : i < off + m.length
    · rw [if_pos h2, List.getElem?_append_left (by omega)]
    · rw [if_neg h2, List.getElem?_append_right (by omega), List.getElem?_drop]
      congr 1; omega
theorem VRL.write {Sh W ρ l vs m ws} (h : VRL Sh W ρ l vs) (k : VRL Sh W ρ m ws) (off : Nat) : VRL Sh W ρ (write l off m) (write vs off ws) := by
  unfold Ax.write
  rw [k.1]
  exact ((h.take off).append k).append (h.drop _)
theorem mem_write {α : Type} {l : List α} {off : Nat} {m : List α} {x : α} (h : x ∈ write l off m) : x ∈ l ∨ x ∈ m := by
  unfold write at h
  rcases List.mem_append.1 h with h | h
  · rcases List.mem_append.1 h with h | h
    · exact .inl (List.mem_of_mem_take h)
    · exact .inr h
  · exact .inl (List.mem_of_mem_drop h)

theorem write_cons {α : Type} (l : List α) (i : Nat) (x : α) (m : List α) (h : i < l.length) : write (l.set i x) (i + 1) m = write l i (x :: m) := by
  have hs : l.set i x = l.take i ++ x :: l.drop (i + 1) := by rw [List.set_eq_take_append_cons_drop, if_pos h]
  have ht : (l.take i).length = i := by simp; omega
  unfold write
  have h1 : (l.set i x).take (i + 1) = l.take i ++ [x] := by
    rw [hs, List.take_append, ht, List.take_of_length_le (by omega), Nat.add_sub_cancel_left]; rfl
  have h2 : (l.set i x).drop (i + 1 + m.length) = l.drop (i + (x :: m).length) := by
    rw [hs, List.drop_append, ht, List.drop_of_length_le (by omega), show i + 1 + m.length - i = m.length + 1 by omega, List.nil_append, List.drop_succ_cons, List.drop_drop]
    congr 1; simp; omega
  rw [h1, h2]
  simp
theorem foldl_set (off : Nat) : ∀ (l : List Value) (k : Nat) (cs : Array Value), off + k + l.length ≤ cs.size →
    ((l.zipIdx k).foldl (fun (cs : Array Value) (p : Value × Nat) => cs.setIfInBounds (off + p.2) p.1) cs).toList = write cs.toList (off + k) l
  | [], k, cs, h => by simp [write]
  | x :: l, k, cs, h => by
    simp only [List.zipIdx_cons, List.foldl_cons]
    simp only [List.length_cons] at h
    rw [foldl_set off l (k + 1) _ (by simp; omega), ← write_cons _ _ _ _ (by simp; omega), Array.toList_setIfInBounds]
    rfl

/-- Parts, and their values. -/
def Parts (Sh : Nat → Prop) (W : World) (ρ : Rho) (l : List (Nat × AV)) (vs : List (Nat × Value)) : Prop :=
  vs.map (·.1) = l.map (·.1) ∧ VRL Sh W ρ (l.map (·.2)) (vs.map (·.2))

theorem fill_sound {place place' : Nat → Option (Nat × Nat)} (hp : ∀ i p, place i = some p → place' i = some p) : ∀ {parts : List (Nat × AV)} {cells K}, (T.prop P G B Q (fillT place parts cells K)) →
    ∃ r : L, (T.prop P G B Q (K r)) ∧ ∀ Sh W ρ (cs : Array Value) (vs : List (Nat × Value)), VRL Sh W ρ cells.v cs.toList → (∀ v ∈ cs.toList, v.oneCell' = true) → Parts Sh W ρ parts vs →
      ∃ cs' : Array Value, Instr.fill place' cs vs = some cs' ∧ VRL Sh W ρ r.v cs'.toList ∧ (∀ v ∈ cs'.toList, v.oneCell' = true)
  | [], cells, K, h => ⟨cells, h, fun Sh W ρ cs vs h1 h2 h3 => by
      have : vs = [] := by have := h3.1; simpa using this
      subst this
      exact ⟨cs, rfl, h1, h2⟩⟩
  | (i, x) :: parts, cells, K, h => by
    unfold fillT at h
    split at h
    · rename_i off size hpl
      obtain ⟨w, h, hw⟩ := cellsT_inv h
      obtain ⟨hfit, hlen, r, hr, h⟩ := writeL_inv h
      obtain ⟨q, h1, h2⟩ := fill_sound hp h
      refine ⟨q, h1, fun Sh W ρ cs vs k1 k2 k3 => ?_⟩
      obtain ⟨k3, k4⟩ := k3
      cases vs with
      | nil => simp at k3
      | cons v vs =>
        obtain ⟨j, v⟩ := v
        simp only [List.map_cons, List.cons.injEq] at k3
        obtain ⟨rfl, k3⟩ := k3
        obtain ⟨v', ws, e, k5, k6⟩ := k4.uncons
        simp only [List.map_cons, List.cons.injEq] at e
        obtain ⟨rfl, rfl⟩ := e
        obtain ⟨m1, m2⟩ := hw Sh W ρ v k5
        have e1 : v.cells.size = size := by rw [← Array.length_toList, m1.1]; exact hlen
        have e2 : off + v.cells.size ≤ cs.size := by
          rw [e1, ← Array.length_toList, k1.1]; exact hfit
        have hset := foldl_set off v.cells.toList 0 cs (by simpa using e2)
        rw [Nat.add_zero] at hset
        let cs2 : Array Value := v.cells.zipIdx.foldl (fun cs (c, j) => cs.setIfInBounds (off + j) c) cs
        have e3 : cs2.toList = write cs.toList off v.cells.toList := by
          rw [← hset]
          show (v.cells.zipIdx.foldl (fun (cs : Array Value) (p : Value × Nat) => cs.setIfInBounds (off + p.2) p.1) cs).toList = _
          rw [← Array.foldl_toList, Array.toList_zipIdx]
        obtain ⟨cs', n1, n2, n3⟩ := h2 Sh W ρ cs2 vs (by rw [hr, e3]; exact k1.write m1 off) (fun v' hv' => by
          rw [e3] at hv'
          rcases mem_write hv' with hv' | hv'
          · exact k2 v' hv'
          · exact m2 v' hv') ⟨k3, k6⟩
        refine ⟨cs', ?_, n2, n3⟩
        unfold Instr.fill
        rw [hp _ _ hpl]
        simp only [e1, ne_eq, not_true_eq_false, decide_false, Bool.false_or]
        rw [if_neg (by simp; omega)]
        exact n1
    · exact h.elim

theorem build_sound (hτ : ∀ t ti, τ t = some ti → TIok P t ti) {t parts K} (h : (T.prop P G B Q (buildT τ t parts K))) : ∃ r, (T.prop P G B Q (K r)) ∧ ∀ Sh W ρ (vs : Array (Nat × Value)), Parts Sh W ρ parts vs.toList →
    ∃ v, (Instr.build t vs).run P W = .ok v W ∧ VR Sh W ρ r v := by
  unfold buildT at h
  split at h
  · rename_i ti hti
    split at h
    · rename_i hk
      obtain ⟨i, z, d, h1, h2, h3, h4, h5, h6, h7, h8, h9, h10⟩ := (hτ t ti hti).ex
      -- the places
      obtain ⟨place', hp, hb⟩ : ∃ place' : Nat → Option (Nat × Nat), (∀ j p, placeOf τ ti.kind j = some p → place' j = some p) ∧ ∀ vs cells, Instr.fill place' z.cells vs = some cells → P.built t vs = some cells := by
        cases hkk : ti.kind with
        | struct fs =>
          rw [hkk] at h6 hk
          obtain ⟨fields, rfl, rfl⟩ := h6
          simp only [TK.known, List.all_map, List.all_eq_true, Function.comp] at hk
          have hpl : ∀ (l : List Field), (∀ f ∈ l, (τ f.type).isSome = true) → ∃ pl, l.mapM (fun f => (P.info? f.type).map fun i => (f.offset, i.size)) = some pl ∧
              ∀ (j : Nat) (p : Nat × Nat), placeOf τ (.struct (l.map fun f => (f.offset, f.type))) j = some p → pl[j]? = some p := by
            intro l
            induction l with
            | nil => intro _; exact ⟨[], rfl, fun j p q => by simp [placeOf] at q⟩
            | cons f l ih =>
              intro hl
              obtain ⟨pl, e1, e2⟩ := ih fun g hg => hl g (List.mem_cons_of_mem _ hg)
              obtain ⟨fti, hft⟩ := Option.isSome_iff_exists.1 (hl f (List.mem_cons_self ..))
              obtain ⟨fi, fz, fd, g1, g2, g3, _⟩ := (hτ _ _ hft).ex
              refine ⟨(f.offset, fi.size) :: pl, by simp [List.mapM_cons, g1, e1], fun j p q => ?_⟩
              cases j with
              | zero => simp [placeOf, Ax.sizeOf, hft] at q ⊢; rw [g3]; exact q
              | succ j => exact e2 j p (by simpa [placeOf] using q)
          obtain ⟨pl, e1, e2⟩ := hpl fields.toList fun f hf => hk f hf
          refine ⟨(pl.toArray[·]?), fun j p q => ?_, fun vs cells q => ?_⟩
          · have := e2 j p q
            simpa using this
          · simp only [Program.built, h1, h2, h5, e1]; exact q
        | array n e =>
          rw [hkk] at h6 hk
          subst h6
          obtain ⟨eti, het⟩ := Option.isSome_iff_exists.1 hk
          obtain ⟨ei, ez, ed, g1, g2, g3, _⟩ := (hτ _ _ het).ex
          refine ⟨fun j => some (j * ei.size, ei.size), fun j p q => ?_, fun vs cells q => ?_⟩
          · simp [placeOf, Ax.sizeOf, het] at q; rw [g3]; exact congrArg some q
          · simp only [Program.built, h1, h2, h5, g1]; exact q
        | _ => rw [hkk] at hk; cases hk
      obtain ⟨r, hr, hf⟩ := fill_sound hp h
      refine ⟨_, hr, fun Sh W ρ vs hv => ?_⟩
      obtain ⟨cs', f1, f2, f3⟩ := hf Sh W ρ z.cells vs.toList (h9 Sh W ρ) h10 hv
      exact ⟨.agg cs', run_build W t vs cs' (hb _ _ f1), .aggL f2 f3⟩
    · exact h.elim
  · exact h.elim

theorem isBytes_inv (hτ : ∀ t ti, τ t = some ti → TIok P t ti) {t : Nat} (h : isBytes τ t = true) : ∃ e, P.underlying t = some (.slice e) ∧ P.underlying e = some (.int .u8) := by
  unfold isBytes at h
  split at h
  · rename_i e _ _ _ _ ht
    obtain ⟨i, z, d, h1, h2, h3, h4, h5, h6, _⟩ := (hτ t _ ht).ex
    exact ⟨e, h2.trans (congrArg some h6), isK_u8 hτ h⟩
  · cases h

theorem isAny_und (hτ : ∀ t ti, τ t = some ti → TIok P t ti) {t : Nat} (h : isK τ t TK.isAny = true) : ∃ d, P.underlying t = some d := by
  obtain ⟨ti, d, h1, h2, h3, _⟩ := isK_und hτ h
  exact ⟨d, h3⟩

theorem conv_sound (hτ : ∀ t ti, τ t = some ti → TIok P t ti) {src dst x K} (hs : isK τ src TK.isAny = true) (h : (T.prop P G B Q (convT τ dst x K))) : ∃ r, (T.prop P G B Q (K r)) ∧ ∀ Sh W ρ a, VR Sh W ρ x a → ∃ v, (convert src dst a).run P W = .ok v W ∧ VR Sh W ρ r v := by
  obtain ⟨ds, hds⟩ := isAny_und hτ hs
  unfold convT at h
  split at h
  · rename_i k _ _ _ _ _ n ht
    obtain ⟨i, z, d, h1, h2, h3, h4, h5, h6, _⟩ := (hτ dst _ ht).ex
    have hu : P.underlying dst = some (.int k) := h2.trans (congrArg some h6)
    have h' : ∃ r : I, r.v = k.wrap n.v ∧ (T.prop P G B Q (K (.int k r))) := by
      split at h
      · exact ⟨_, rfl, h⟩
      · exact h
    obtain ⟨r, hr, h⟩ := h'
    refine ⟨_, h, fun Sh W ρ a ha => ?_⟩
    cases ha with | int ha =>
    exact ⟨.int k r.v, by rw [hr, ← ha]; simp [convert, run_underlying hds, run_underlying hu, Conv.intToInt], .int rfl⟩
  · rename_i _ _ _ _ _ n ht
    obtain ⟨i, z, d, h1, h2, h3, h4, h5, h6, _⟩ := (hτ dst _ ht).ex
    have hu : P.underlying dst = some .string := h2.trans (congrArg some h6)
    have h' : ∃ r : S, r.v = (Utf8.encode n.v).data.toList ∧ (T.prop P G B Q (K (.str r))) := by
      split at h
      · exact ⟨_, rfl, h⟩
      · exact h
    obtain ⟨r, hr, h⟩ := h'
    refine ⟨_, h, fun Sh W ρ a ha => ?_⟩
    cases ha with | int ha =>
    exact ⟨.string (Utf8.encode n.v), by rw [← ha]; simp [convert, run_underlying hds, run_underlying hu, Conv.intToString], .str hr.symm⟩
  · rename_i ht
    obtain ⟨i, z, d, h1, h2, h3, h4, h5, h6, _⟩ := (hτ dst _ ht).ex
    have hu : P.underlying dst = some .string := h2.trans (congrArg some h6)
    refine ⟨_, h, fun Sh W ρ a ha => ?_⟩
    cases ha with | str ha =>
    exact ⟨_, by simp [convert, run_underlying hds, run_underlying hu], .str ha⟩
  · exact h.elim

theorem bytesOf_vals : ∀ {l : List AV} {s : List UInt8} {Sh W ρ vs}, bytesOf l = some s → VRL Sh W ρ l vs → ∃ ns : List Int, vs = ns.map (Value.int .u8) ∧ s = ns.map fun n => UInt8.ofNat n.toNat
  | [], s, Sh, W, ρ, vs, h, hv => by cases h; exact ⟨[], by rw [hv.unnil]; rfl, rfl⟩
  | x :: l, s, Sh, W, ρ, vs, h, hv => by
    unfold bytesOf at h
    split at h
    · rename_i e; cases e
    · rename_i n l' e
      cases e
      simp only [Option.map_eq_some_iff] at h
      obtain ⟨s', h1, rfl⟩ := h
      obtain ⟨v, ws, rfl, hx, hw⟩ := hv.uncons
      obtain ⟨ns, e1, e2⟩ := bytesOf_vals h1 hw
      cases hx with | int hx =>
      exact ⟨n.v :: ns, by rw [e1, hx]; rfl, by rw [e2]; rfl⟩
    · cases h

theorem foldl_push (ns : List Int) : ∀ (b : ByteArray), (ns.foldl (fun r n => r.push (UInt8.ofNat n.toNat)) b).data.toList = b.data.toList ++ ns.map fun n => UInt8.ofNat n.toNat := by
  induction ns with
  | nil => intro b; simp
  | cons n ns ih => intro b; rw [List.foldl_cons, ih]; simp [ByteArray.push]

/-- Bytes as a string. -/
theorem str_sound (hτ : ∀ t ti, τ t = some ti → TIok P t ti) {H src dst x} {K : AV → T} (hs : isBytes τ src = true) (hd : isK τ dst TK.isStr = true) (h : (T.prop P G B Q (srcT H 1 x fun _ l => .bytes l.v fun r => K (.str r))))
    (hx : ∀ Sh W ρ a, VR Sh W ρ x a → ∃ ad m c, a = .slice ad m c) : ∃ r, (T.prop P G B Q (K r)) ∧ ∀ Sh W ρ a, LR Sh W ρ H → VR Sh W ρ x a → ∃ v, (convert src dst a).run P W = .ok v W ∧ VR Sh W ρ r v := by
  obtain ⟨e, hus, hue⟩ := isBytes_inv hτ hs
  have hud := isK_str hτ hd
  obtain ⟨n, l, ⟨r, hr, h⟩, hl, hsrc⟩ := src_sound h
  refine ⟨_, h, fun Sh W ρ a hL ha => ?_⟩
  obtain ⟨vs, h2, h4, h13⟩ := hsrc Sh W ρ a hL ha
  obtain ⟨h1, h3⟩ := h13 W rfl
  obtain ⟨ns, rfl, e2⟩ := bytesOf_vals hr h2
  obtain ⟨ad, m, c, rfl⟩ := hx Sh W ρ a ha
  have hm : m = n.v := by
    simp [Builtin.lenOf] at h1
    exact h1
  subst hm
  cases ad with
  | none =>
    have e0 : ns = [] := by
      simp only [Builtin.firstCells, Sem.run_pure, Result.ok.injEq, and_true] at h3
      have h3' := congrArg Array.toList h3
      simpa using h3'.symm
    subst e0
    exact ⟨_, by rw [run_convert_bytes_string W src dst e _ _ c hus hue hud]; rfl, .str (by rw [e2]; rfl)⟩
  | some ad =>
  have h3' : (loadCells ad n.v).run P W = .ok (ns.map (Value.int .u8)).toArray W := by
    simpa [Builtin.firstCells] using h3
  refine ⟨_, by rw [run_convert_bytes_string W src dst e _ _ c hus hue hud, run_bytesToString W ad _ c ns h3'], .str ?_⟩
  rw [foldl_push, e2]; simp [ByteArray.empty, ByteArray.emptyWithCapacity]; rfl
end
end Go.Ax
