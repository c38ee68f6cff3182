/-
  The small abstract machine: append, and strings as bytes.
-/
import Derived.Test.YtcohbcdhcmajiaaDoorAx13
namespace Go.Ax
open Go.RowKit
set_option linter.unusedVariables false

section
variable {P : Program} {G : Nat → Option (List AV)} {B : Nat} {Q : Ex → St → Prop} {τ : Tys}
variable {W0 : World} {S0 Sh : Nat → Prop} {ρ : Rho} {W : World} {s : St} {a : Act}

theorem S.len_v {s : S} {b : ByteArray} (h : b.data.toList = s.v) : b.size = s.v.length := size_of_str h

theorem bytes_new (hτ : ∀ t ti, τ t = some ti → TIok P t ti) {o : Oper} {src dst : TypeId} {x : Operand} {K : AV → L → T} (ho : o.op = .convert src dst x)
    (hk : isBytes τ dst = true) (hk' : isK τ src TK.isAny = true) {b : S} (hx : s.ev G x = some (.str b))
    (h : (T.prop P G B Q (b.len fun n => byteL b fun l => K (.own s.next (.lit 0) n none 1) l))) : ∃ x l, (T.prop P G B Q (K x l)) ∧ NewOk P G o s x l := by
  obtain ⟨e, hu, hue⟩ := isBytes_inv hτ hk
  obtain ⟨ds, hds⟩ := isAny_und hτ hk'
  obtain ⟨n, hn, h⟩ := len_inv h
  obtain ⟨l, hl, h⟩ := byteL_inv h
  refine ⟨_, l, h, fun Sh W ρ nt a hG ht => ?_⟩
  have hxv := ev_sound hG ht hx
  cases hq : a.eval x <;> rw [hq] at hxv <;> cases hxv
  rename_i bb hb
  -- the capacity
  let q : Question := .appendCap bb.size 0 e
  let cap := q.cut (W.tape W.drawn q)
  have hcap : bb.size ≤ cap := by show bb.size ≤ bb.size + _; omega
  let elems : Array Value := bb.data.map fun c => .int .u8 c.toNat
  let cs : Array Value := elems ++ Array.replicate (cap - bb.size) (.int .u8 0)
  have hes : elems.size = bb.size := by simp [elems]
  have hcs : cs.size = cap := by simp [cs, hes]; omega
  let W' : World := (W.drew.alloc (.cells cs e (0, 0))).freeze ⟨W.heap.size, cs.size, none⟩ 1
  have g : Grew W W' (.cells cs e (cs.size, cs.size + 1)) := by
    refine ⟨?_, ?_, ?_, ?_⟩
    · rfl
    · rfl
    · rfl
    · simp only [W', World.freeze, Nat.one_ne_zero, if_false]
      apply Array.ext'
      apply List.ext_getElem?
      intro i
      have g0 := Grew.alloc W.drew (.cells cs e (0, 0))
      have eh : (W.drew.alloc (.cells cs e (0, 0))).heap = W.heap.push (.cells cs e (0, 0)) := rfl
      rw [eh]
      simp only [Array.getElem?_toList, Array.getElem?_modify, Array.getElem?_push]
      by_cases hi : i = W.heap.size
      · subst hi; simp
      · rw [if_neg (fun e => hi e.symm), if_neg hi, if_neg hi]
  have hv : VRL Sh W ρ l.v (cs.toList.take l.v.length) := by
    have hll : l.v.length = bb.size := by rw [hl, size_of_str hb]; simp [byteCells]
    have : cs.toList.take l.v.length = elems.toList := by
      simp only [cs, Array.toList_append]
      rw [List.take_append_of_le_length (by simp [hll, hes]), List.take_of_length_le (by simp [hll, hes])]
    rw [this, hl]
    refine ⟨by simp [elems, byteCells, ← hb], fun i x v p q => ?_⟩
    simp only [byteCells, elems, Array.toList_map, List.getElem?_map, Option.map_eq_some_iff] at p q
    obtain ⟨c, h1, rfl⟩ := p
    obtain ⟨c', h2, rfl⟩ := q
    rw [hb, h1] at h2; cases h2
    exact .int rfl
  have hll : l.v.length ≤ cs.size := by rw [hl, hcs]; simp [byteCells]; rw [← size_of_str hb]; exact hcap
  refine ⟨.slice (some ⟨W.heap.size, 0, none⟩) bb.size cap, W', _, _, _, ?_, g, hll, (fun i x v p q => hv.2 i x v p (by
      rw [List.getElem?_take, if_pos (List.getElem?_eq_some_iff.1 p).1]; simpa using q)), (fun i v q => by
      simp only [cs] at q
      rw [Array.getElem?_append] at q
      split at q
      · simp only [elems, Array.getElem?_map, Option.map_eq_some_iff] at q
        obtain ⟨c, _, rfl⟩ := q; rfl
      · rw [Array.getElem?_replicate] at q
        split at q
        · cases q; rfl
        · cases q), (fun o ho q => by dsimp only at q; omega), fun ρ' hr => own_new g (by rw [hn, ← size_of_str hb]) hcap (fun c' e => by cases e) (by omega) hr⟩
  rw [execOp, ho]
  refine run_v ?_
  rw [hq]
  have hconv : (convert src dst (.string bb)).run P W = (Conv.stringToBytes e bb).run P W := by
    simp [convert, run_underlying hds, run_underlying hu, run_underlying hue]
  rw [hconv]
  have hfz : (W.drew.alloc (.cells cs e (0, 0))).shape? W.heap.size = some (e, cs.size) := by
    have g0 : (W.drew.alloc (.cells cs e (0, 0))).heap[W.heap.size]? = some (.cells cs e (0, 0)) := (Grew.alloc W (.cells cs e (0, 0))).new
    simp only [World.shape?, g0]
  simp only [Conv.stringToBytes, Sem.run_bind]
  have hch : (choose (.appendCap bb.size 0 e)).run P W = .ok cap W.drew := rfl
  rw [hch]
  simp only [Result.andThen_ok]
  have hnr : (newRow e (bb.data.map (fun c => Value.int .u8 (c.toNat : Int)) ++ Array.replicate (cap - bb.size) (.int .u8 0))).run P W.drew = .ok ⟨W.heap.size, 0, none⟩ (W.drew.alloc (.cells cs e (0, 0))) := rfl
  rw [hnr]
  simp only [Result.andThen_ok]
  have hms : (markStringish ⟨W.heap.size, 0, none⟩).run P (W.drew.alloc (.cells cs e (0, 0))) = .ok () W' := by
    simp only [markStringish, Sem.run_bind, shape, Sem.run, hfz, Result.andThen_ok]
    rfl
  rw [hms]; rfl

/-- A slice that grows: new cells, its capacity unknown. -/
theorem grow_run (hτ : ∀ t ti, τ t = some ti → TIok P t ti) {t u ty e : TypeId} {ti : TI} (hu : P.underlying t = some (.slice e)) (hte : τ e = some ti) (hz : (match P.underlying u with | some (.int _) => False | some _ => True | none => False))
    {base : Option Addr} {sLen sCap n : Nat} {x : Value} {olds news : List Value} (ho : (Builtin.firstCells ti.size sLen (.slice base sLen sCap)).run P W.drew = .ok olds.toArray W.drew) (hl : olds.length = sLen * ti.size)
    (hlen : (Builtin.lenOf x).run P W = .ok n W) (hx : (Builtin.firstCells ti.size n x).run P W.drew = .ok news.toArray W.drew) (hn : news.length = n * ti.size)
    (hg : sCap < sLen + n) (hroom : (sLen + n) * ti.bytes ≤ 140737488355328) (h63 : ti.bytes = 0 → ((sLen + n : Nat) : Int) ≤ 9223372036854775807) :
    ∃ (cs : Array Value) (cap : Nat), (Builtin.append_ #[t, u] ty #[.slice base sLen sCap, x]).run P W = .ok (.slice (some ⟨W.heap.size, 0, none⟩) (sLen + n) cap) (W.drew.alloc (.cells cs e (0, 0))) ∧
      sLen + n ≤ cap ∧ cs.size = cap * ti.size ∧ cs.toList.take ((sLen + n) * ti.size) = olds ++ news ∧ ∀ v ∈ cs.toList, v ∈ olds ∨ v ∈ news ∨ v.oneCell' = true := by
  obtain ⟨i, z, d, h1, h2, h3, h4, h5, h6, h7, h8, h9, h10⟩ := (hτ e ti hte).ex
  obtain ⟨du, hdu, hnu⟩ : ∃ d, P.underlying u = some d ∧ ∀ k, d ≠ .int k := by
    cases hq : P.underlying u with
    | none => rw [hq] at hz; exact hz.elim
    | some d => rw [hq] at hz; exact ⟨d, rfl, fun k e => by subst e; exact hz⟩
  let q : Question := .appendCap (sLen + n) sCap e
  let cap := q.cut (W.tape W.drawn q)
  have hcap : sLen + n ≤ cap := by show sLen + n ≤ sLen + n + _; omega
  refine ⟨olds.toArray ++ news.toArray ++ Builtin.zeroCells z.cells (cap - (sLen + n)), cap, ?_, hcap, ?_, ?_, ?_⟩
  · have hfit := growslice_fits (bytes := i.bytes) hg (by rw [h4]; exact hroom)
    have hch : (choose (.appendCap (sLen + n) sCap e)).run P W = .ok cap W.drew := rfl
    have hzero : (match du with | .int _ => true | _ => false) = false := by cases du <;> first | rfl | exact absurd rfl (hnu _)
    have hti : ∀ w, (typeInfo e).run P w = .ok i w := fun w => by simp [typeInfo, h1]
    have hzv : ∀ w, (zeroValue e).run P w = .ok z w := fun w => by simp [zeroValue, typeInfo, h1, h5]
    have hroom2 : ∀ w, (askRoom (cap * i.bytes)).run P w = .ok () w := fun w => by
      unfold askRoom; split
      · simp [mark, Sem.run]
      · rfl
    have hng : ¬ (sLen + n ≤ sCap) := by omega
    have hov : ¬ (((sLen + n : Nat) : Int) > IntKind.i64.max ∧ (False ∨ i.bytes = 0)) := by
      rintro ⟨q1, q2⟩
      rcases q2 with q2 | q2
      · exact q2
      · have := h63 (by rw [← h4]; exact q2)
        have e : IntKind.i64.max = 9223372036854775807 := rfl
        rw [e] at q1; omega
    have hfit' : ¬ (Builtin.nextslicecap (sLen + n) sCap * i.bytes > 2 ^ 48) := by
      show ¬ (_ > 281474976710656); omega
    simp only [Builtin.append_, List.getElem?_toArray, List.getElem?_cons_zero, List.getElem?_cons_succ, Sem.run_bind, run_underlying hu, run_underlying hdu, Result.andThen_ok, run_size (hτ _ _ hte)]
    simp only [Sem.run_pure, Sem.run_bind, Result.andThen_ok, Bool.false_eq_true, if_false, hlen, if_neg hng, hti, if_neg hov, if_neg hfit', hch, hroom2, ho, hx, hzv, Bool.not_false, if_true]
    rfl
  · have := size_zeroCells z.cells (cap - (sLen + n))
    rw [Array.size_append, Array.size_append, this, h8]
    simp only [List.size_toArray, hl, hn, ← Nat.add_mul]
    congr 1; omega
  · simp only [Array.toList_append]
    rw [List.take_append_of_le_length (by simp [hl, hn, ← Nat.add_mul])]
    exact List.take_of_length_le (by simp [hl, hn, ← Nat.add_mul])
  · intro v hv
    simp only [Array.toList_append, List.mem_append] at hv
    rcases hv with (hv | hv) | hv
    · exact .inl hv
    · exact .inr (.inl hv)
    · right; right
      have e : (Builtin.zeroCells z.cells (cap - (sLen + n))).toList = listC (cap - (sLen + n)) z.cells.toList := range_listC z.cells _ _ rfl
      rw [e] at hv
      exact h10 v (mem_listC hv)

theorem lr_cells {H : Heap} (hL : LR Sh W ρ H) {id : Nat} {l : L} {sh : Bool} {b : Nat} (hb : look H id = some (some ⟨l, sh⟩)) (hr : ρ id = some b) (off n : Nat) (hfit : off + n ≤ l.v.length) :
    ∃ (cs : Array Value) (e : TypeId) (fr : Nat × Nat), W.heap[b]? = some (.cells cs e fr) ∧ l.v.length ≤ cs.size ∧ VRL Sh W ρ ((l.v.drop off).take n) ((cs.toList.drop off).take n) ∧ ∀ v ∈ (cs.toList.drop off).take n, v.oneCell' = true := by
  obtain ⟨cs, e, fr, h1, h2, h3, h4⟩ := hL id l sh b hb hr
  refine ⟨cs, e, fr, h1, h2, ⟨by simp; omega, fun i x v p q => ?_⟩, fun v hv => ?_⟩
  · rw [List.getElem?_take] at p q
    by_cases hi : i < n
    · rw [if_pos hi] at p q
      exact h3 (off + i) x v (by simpa using p) (by simpa using q)
    · rw [if_neg hi] at p; cases p
  · obtain ⟨i, hi⟩ := List.mem_iff_getElem?.1 (List.mem_of_mem_drop (List.mem_of_mem_take hv))
    exact h4 i v (by simpa using hi)

theorem first_own {sz : Nat} {cs : Array Value} {e : TypeId} {fr : Nat × Nat} {b off len cap : Nat} (hb : W.heap[b]? = some (.cells cs e fr)) (hfit : off + len * sz ≤ cs.size) (w : World) (hw : w.heap = W.heap) :
    (Builtin.firstCells sz len (.slice (some ⟨b, off, none⟩) len cap)).run P w = .ok ((cs.toList.drop off).take (len * sz)).toArray w := by
  refine run_firstCells_some (P := P) (w := w) sz len ⟨b, off, none⟩ len cap _ (by simp; omega) (fun j v q => ?_)
  rw [Addr.add_lit', cell_of_row (by rw [hw]; exact hb)]
  rw [List.getElem?_take] at q
  by_cases hi : j < len * sz
  · rw [if_pos hi] at q; simpa using q
  · rw [if_neg hi] at q; cases q

/-- A block that nothing stands for is written. -/
theorem HRel.scratch {H : Heap} {n : Nat} (h : HRel G W0 S0 Sh ρ H n W) {b : Nat} {W' : World} (hw : Wrote W W' b) (hb0 : W0.heap.size ≤ b) (hS : ¬ Sh b) (hu : ∀ id x, look H id = some (some x) → ρ id ≠ some b)
    {cs cs' : Array Value} {e : TypeId} {fr : Nat × Nat} (h1 : W.heap[b]? = some (.cells cs e fr)) (h2 : W'.heap[b]? = some (.cells cs' e fr)) (h3 : cs'.size = cs.size) : Ext Sh ρ W Sh ρ W' ∧ HRel G W0 S0 Sh ρ H n W' := by
  have ext : Ext Sh ρ W Sh ρ W' := ⟨fun _ h => h, fun _ _ h => h, fun k hk => hw.block k (fun q => hS (q ▸ hk)), fun k c e' f q => by
    by_cases hk : k = b
    · subst hk; rw [h1] at q; cases q; exact ⟨cs', fr, h2, h3⟩
    · exact ⟨c, f, by rw [hw.block k hk]; exact q, rfl⟩⟩
  refine ⟨ext, ⟨?_, ?_, h.inj, h.fresh, fun k hk => by rw [hw.size]; exact h.slt k hk, h.grow, h.glob.mono (fun _ h => h) ext.keep, h.dom⟩⟩
  · exact ⟨hw.os.trans h.below.os, hw.tape.trans h.below.tape, hw.output.trans h.below.output, by rw [hw.size]; exact h.below.size, fun k hk => by rw [hw.block k (by omega)]; exact h.below.block k hk⟩
  · intro id' l2 sh2 b2 hl2 hr2
    obtain ⟨c2, e2, f2, p1, p2, p3, p4, p5, p6, p7⟩ := h.blk id' l2 sh2 b2 hl2 hr2
    have hne : b2 ≠ b := fun q => hu id' _ hl2 (q ▸ hr2)
    exact ⟨c2, e2, f2, p1, by rw [hw.block b2 hne]; exact p2, p3, fun i x v p q => (p4 i x v p q).ext ext, p5, p6, p7⟩

section
variable {t u ty e : TypeId} {ti : TI}
/-- An append that has room. -/
theorem room_run (hτ : ∀ t ti, τ t = some ti → TIok P t ti) (hu : P.underlying t = some (.slice e)) (hte : τ e = some ti) (hz : (match P.underlying u with | some (.int _) => False | some _ => True | none => False))
    {base : Option Addr} {sLen sCap n : Nat} {x : Value} {news : List Value} (hlen : (Builtin.lenOf x).run P W = .ok n W) (hx : (Builtin.firstCells ti.size n x).run P W = .ok news.toArray W) (hg : sLen + n ≤ sCap)
    {W' : World} (hs : match base with | some ad => (storeCells (ad.add (sLen * ti.size)) news).run P W = .ok () W' | none => W' = W) :
    (Builtin.append_ #[t, u] ty #[.slice base sLen sCap, x]).run P W = .ok (.slice base (sLen + n) sCap) W' := by
  obtain ⟨du, hdu, hnu⟩ : ∃ d, P.underlying u = some d ∧ ∀ k, d ≠ .int k := by
    cases hq : P.underlying u with
    | none => rw [hq] at hz; exact hz.elim
    | some d => rw [hq] at hz; exact ⟨d, rfl, fun k e => by subst e; exact hz⟩
  have hzero : (match du with | .int _ => true | _ => false) = false := by cases du <;> first | rfl | exact absurd rfl (hnu _)
  simp only [Builtin.append_, List.getElem?_toArray, List.getElem?_cons_zero, List.getElem?_cons_succ, Sem.run_bind, run_underlying hu, run_underlying hdu, Result.andThen_ok, run_size (hτ _ _ hte)]
  simp only [Sem.run_pure, Sem.run_bind, Result.andThen_ok, Bool.false_eq_true, if_false, hlen, if_pos hg, hx, Bool.not_false, if_true]
  cases base with
  | none => subst hs; rfl
  | some ad => simp only [Sem.run_bind, hs, Result.andThen_ok]; rfl

theorem VRL.take_of {l : List AV} {cs : List Value} {olds news : List Value} {k : Nat} (hk : cs.take k = olds ++ news) (hl : l.length = k) (h : VRL Sh W ρ l (olds ++ news)) (i : Nat) (x : AV) (v : Value) (p : l[i]? = some x) (q : cs[i]? = some v) : VR Sh W ρ x v := by
  refine h.2 i x v p ?_
  have hi := (List.getElem?_eq_some_iff.1 p).1
  rw [← hk, List.getElem?_take, if_pos (by omega)]; exact q

/-- A block that isn't there yet. -/
theorem HRel.unborn {H : Heap} {n : Nat} (h : HRel G W0 S0 Sh ρ H n W) (l : L) : HRel G W0 S0 Sh ρ ((n, some ⟨l, false⟩) :: H) (n + 1) W := by
  have ne : ∀ {id b}, ρ id = some b → n ≠ id := fun q e => by rw [← e, h.fresh n (Nat.le_refl _)] at q; cases q
  have lk : ∀ {id b}, ρ id = some b → look ((n, some ⟨l, false⟩) :: H) id = look H id := fun q => by rw [look, if_neg (ne q)]
  refine ⟨h.below, fun id l' sh b hk hr => ?_, fun id id' l' x b h1 h2 h3 h4 => ?_, fun id q => h.fresh id (by omega), h.slt, h.grow, h.glob, fun id x q => ?_⟩
  · rw [lk hr] at hk; exact h.blk id l' sh b hk hr
  · rw [lk h3] at h1; rw [lk h4] at h2; exact h.inj id id' l' x b h1 h2 h3 h4
  · rw [look] at q
    split at q
    · omega
    · have := h.dom id x q; omega

/-- A slice's block has a type. -/
def Ty (e : TypeId) (W : World) (v : Value) : Prop := ∀ b o s m c, v = .slice (some ⟨b, o, s⟩) m c → ∃ (cs : Array Value) (fr : Nat × Nat), W.heap[b]? = some (.cells cs e fr)

theorem append_sound (hτ : ∀ t ti, τ t = some ti → TIok P t ti) {o : Oper} {args : Array Operand} {ts : Array TypeId} {x y : AV} {K next Q'} (ho : o.op = .call { callee := .builtin .append, args := args, argTypes := ts }) (hts : ts.toList = [t, u])
    (he : elemOf τ t = some (e, ti)) (hk : (isK τ u TK.isSlice || isK τ u TK.isStr) = true) (hsz0 : ti.size ≠ 0) (hby : ti.bytes ≠ 0) (sim : Sim G W0 S0 Sh ρ s a W) (hd : dstOk o s = true) (hxy : s.evs G args.toList = some [x, y])
    (h : (T.prop P G B Q (srcT s.heap ti.size y fun n new => appendT s o.dst e ti.size ti.bytes x n new K))) (hK : Then P G B Q W0 S0 Sh ρ s.nt W K next) : o.wp P a W next Q' := by
  obtain ⟨hu, hte⟩ := elemOf_inv hτ he
  have hz : (match P.underlying u with | some (.int _) => False | some _ => True | none => False) := by
    simp only [Bool.or_eq_true] at hk
    rcases hk with hk | hk
    · obtain ⟨e', q⟩ := isK_slice hτ hk; rw [q]; trivial
    · rw [isK_str hτ hk]; trivial
  obtain ⟨n, new, h9, hnl, hsrc⟩ := src_sound h
  clear h
  have h := h9
  clear h9
  obtain ⟨vx, ws, e1, hvx, hw⟩ := (evs_sound sim.hr.glob sim.tr hxy).uncons
  obtain ⟨vy, ws', rfl, hvy, hw'⟩ := hw.uncons
  have e2 := hw'.unnil
  subst e2
  have hargs : args.map a.eval = #[vx, vy] := by apply Array.ext'; simpa using e1
  have htss : ts = #[t, u] := by apply Array.ext'; simpa using hts
  obtain ⟨news, hnv, hn1, hnr⟩ := hsrc Sh W ρ vy sim.hr.lr hvy
  obtain ⟨hlen, hfirst⟩ := hnr W rfl
  obtain ⟨_, hfirst'⟩ := hnr W.drew rfl
  have hnews : news.length = n.v * ti.size := by rw [hnv.1, hnl]
  have hrun : ∀ {v W'}, (Builtin.append_ #[t, u] o.type #[vx, vy]).run P W = .ok v W' → (execOp a.eval o).run P W = .ok (.value v) W' := by
    intro v W' hr
    rw [execOp, ho]
    simp only [resolve, Sem.run_bind, Sem.run_pure, Result.andThen_ok, invoke, builtin, hargs, htss, hr]
  -- a new row out of old cells and new ones
  have grow : ∀ {base : Option Addr} {sLen sCap : Nat} {olds : List Value} {old : List AV} {r : L} {m : N} {s' : St}, vx = .slice base sLen sCap → (Builtin.firstCells ti.size sLen (.slice base sLen sCap)).run P W.drew = .ok olds.toArray W.drew →
      olds.length = sLen * ti.size → VRL Sh W ρ old olds → (∀ v ∈ olds, v.oneCell' = true) → sCap < sLen + n.v → (sLen + n.v) * ti.bytes ≤ 140737488355328 → r.v = old ++ new.v → m.v = sLen + n.v →
      Sim G W0 S0 Sh ρ s' a W → s'.nt = s.nt → ∀ {X : AV}, (∀ {Sh W ρ v}, VR Sh W ρ (.own s'.next (.lit 0) m none ti.size) v → Ty e W v → VR Sh W ρ X v) → (T.prop P G B Q (K (s'.new o.dst X r))) → o.wp P a W next Q' := by
    intro base sLen sCap olds old r m s' hvx' ho' hol hov ho1 hg hroom hr hm sim' hnt X hX hh
    obtain ⟨cs, cap, r1, r2, r3, r4, r5⟩ := grow_run (P := P) (ty := o.type) hτ hu hte hz (base := base) ho' hol hlen hfirst' hnews hg hroom (fun q => absurd q hby)
    rw [← hvx'] at r1
    have g : Grew W (W.drew.alloc (.cells cs e (0, 0))) (.cells cs e (0, 0)) := ⟨rfl, rfl, rfl, rfl⟩
    have hrl : r.v.length = (sLen + n.v) * ti.size := by rw [hr, List.length_append, ← hov.1, hol, hnl, Nat.add_mul]
    obtain ⟨x1, x2⟩ := sim'.new (o := o) (l := r) (by unfold dstOk at hd ⊢; rw [hnt]; exact hd) g (by rw [hrl, r3]; exact Nat.mul_le_mul_right _ r2)
      (fun i x v p q => VRL.take_of r4 hrl (by rw [hr]; exact hov.append hnv) i x v p (by simpa using q))
      (fun i v q => by
        rcases r5 v (List.mem_of_getElem? (i := i) (by simpa using q)) with q' | q' | q'
        · exact ho1 v q'
        · exact hn1 v q'
        · exact q') (fun o _ q => by omega)
      (x := X) (v := .slice (some ⟨W.heap.size, 0, none⟩) (sLen + n.v) cap) (hX (own_new g hm r2 (fun c' e => by cases e) (by omega) (add_self _ _ _)) (fun b o s m c q => by cases q; exact ⟨cs, (0, 0), g.new⟩))
    exact Oper.wp_value (hrun r1) (hK _ _ _ _ _ hh x1 x2 ((nt_put _ _ _).trans hnt))
  -- a whole block, whose capacity isn't known
  have whole : ∀ {id : Nat} {len m : N} {l r : L} {X : AV}, look s.heap id = some (some ⟨l, false⟩) → VR Sh W ρ (.own id (.lit 0) len none ti.size) vx → l.v.length = len.v * ti.size → m.v = len.v + n.v → m.v * ti.bytes ≤ 140737488355328 → r.v = l.v ++ new.v →
      (∀ {Sh W' ρ v}, VR Sh W' ρ (.own s.next (.lit 0) m none ti.size) v → (Ty e W vx → Ty e W' v) → VR Sh W' ρ X v) → (T.prop P G B Q (K ({ s with heap := updH s.heap id none }.new o.dst X r))) → o.wp P a W next Q' := by
    intro id len m l r X hb hvx hll hm hroom hr hX h
    cases hvx with
    | @own _ _ _ _ _ _ bb c' mm oo cs0 e0 fr0 hm' ho' hr' hb' hcap hlen' hfit' =>
    subst hm'
    obtain rfl : 0 = oo := ho'
    obtain ⟨cs, eb, fr, q1, q2, q3, q4, q5, q6, q7⟩ := sim.hr.blk id l false bb hb hr'
    obtain ⟨q9, q8⟩ := q7 rfl
    clear q7
    have hcs0 : cs0 = cs := by rw [q2] at hb'; cases hb'; rfl
    subst hcs0
    have hk := sim.hr.kill hb
    by_cases hg : len.v + n.v ≤ c'
    · -- in place
      have hmul : (len.v + n.v) * ti.size ≤ c' * ti.size := Nat.mul_le_mul_right _ hg
      rw [Nat.add_mul] at hmul
      obtain ⟨W', cs', r1, r2, r3, r4⟩ := run_storeBlk (P := P) bb (len.v * ti.size) eb fr news 0 W cs0 q2 (by omega) q8 hn1
      rw [Nat.add_zero] at r4
      have hcl : len.v * ti.size + news.length ≤ cs0.toList.length := by simp; omega
      have hsz : cs'.size = cs0.size := by rw [← Array.length_toList, r4, length_write hcl]; simp
      have hu' : ∀ id' x, look (updH s.heap id none) id' = some (some x) → ρ id' ≠ some bb := by
        intro id' x hl' hr2
        rw [look_upd hb] at hl'
        by_cases hid : id' = id
        · rw [if_pos hid] at hl'; cases hl'
        · rw [if_neg hid] at hl'
          exact hid (sim.hr.inj id id' l x bb hb hl' hr' hr2).symm
      obtain ⟨x1, x2⟩ := hk.scratch r2 q1 q9 hu' q2 r3 hsz
      have hrl : r.v.length = len.v * ti.size + news.length := by rw [hr, List.length_append, hll, ← hnv.1]
      obtain ⟨y1, y2⟩ := x2.name (l := r) q1 r3 q9 (by rw [hrl, hsz]; simpa using hcl) (fun i x v pp qq => by
          refine VR.ext x1 ?_
          have q' : (Ax.write cs0.toList (len.v * ti.size) news)[i]? = some v := by rw [← r4]; simpa using qq
          rw [getElem?_write hcl] at q'
          have hi := (List.getElem?_eq_some_iff.1 pp).1
          rw [hr] at pp
          by_cases hi2 : i < len.v * ti.size
          · rw [if_pos hi2] at q'
            rw [List.getElem?_append_left (by omega)] at pp
            exact q4 i x v pp (by simpa using q')
          · rw [if_neg hi2, if_pos (by omega)] at q'
            rw [List.getElem?_append_right (by omega), hll] at pp
            exact hnv.2 _ x v pp q') (fun i v qq => by
          have q' : v ∈ cs'.toList := List.mem_of_getElem? (i := i) (by simpa using qq)
          rw [r4] at q'
          rcases mem_write q' with q' | q'
          · obtain ⟨j, hj⟩ := List.mem_iff_getElem?.1 q'
            exact q5 j v (by simpa using hj)
          · exact hn1 v q') (fun o ho => q8 o (by omega)) hu'
      have hst := room_run (P := P) (ty := o.type) hτ hu hte hz (base := some ⟨bb, 0, none⟩) (sLen := len.v) (sCap := c') hlen hfirst (by omega) (W' := W') (by
        show (storeCells ((⟨bb, 0, none⟩ : Addr).add (len.v * ti.size)) news).run P W = _
        rw [Addr.add_lit', Nat.zero_add]; exact r1)
      refine Oper.wp_value (hrun hst) (hK _ _ _ _ _ h (x1.trans y1) (Sim.put (s := { s with heap := (s.next, some ⟨r, false⟩) :: updH s.heap id none, next := s.next + 1 }) ⟨sim.defers, y2, sim.tr.ext (x1.trans y1)⟩ hd ?_) (nt_put _ _ _))
      refine hX (.own hm rfl (add_self _ _ _) r3 (fun c'' e => (by cases e)) (by omega) (by rw [hsz]; omega)) (fun t b o s m c q => ?_)
      cases q
      obtain ⟨cs1, fr1, q1'⟩ := t _ _ _ _ _ rfl
      rw [q2] at q1'
      cases q1'
      exact ⟨cs', fr, r3⟩
    · obtain ⟨cs1, e1, fr1, t1, t2, t3, t4⟩ := lr_cells sim.hr.lr hb hr' 0 l.v.length (by omega)
      have e1' : cs1 = cs0 := by rw [q2] at t1; cases t1; rfl
      subst e1'
      have hf := first_own (P := P) (sz := ti.size) (len := len.v) (cap := c') (off := 0) q2 (by omega) W.drew rfl
      rw [← hll] at hf
      exact grow (old := l.v) (r := r) (m := m) (s' := { s with heap := updH s.heap id none }) (X := X) rfl hf (by rw [List.length_take, List.length_drop, Array.length_toList]; omega) (by simpa using t3) t4 (by omega) (by rw [← hm]; exact hroom) hr hm ⟨sim.defers, hk, sim.tr⟩ rfl (fun h t => hX h (fun _ => t)) h
  cases x with
  | nil =>
    cases hvx
    have zero : n.v = 0 → (T.prop P G B Q (K (s.put o.dst .nil))) → o.wp P a W next Q' := by
      intro hn hh
      have r1 := room_run (P := P) (ty := o.type) hτ hu hte hz (base := none) (sLen := 0) (sCap := 0) hlen hfirst (by omega) (W' := W) rfl
      rw [hn] at r1
      exact Oper.wp_value (hrun r1) (hK _ _ _ _ _ hh Ext.refl (sim.put hd .nil) (nt_put _ _ _))
    have more : n.v ≠ 0 → n.v * ti.bytes ≤ 140737488355328 → (T.prop P G B Q (newSlice s o.dst n none ti.size new K)) → o.wp P a W next Q' := by
      intro hn hroom hh
      exact grow (old := []) (olds := []) (r := new) (m := n) (s' := s) rfl (by simp [Builtin.firstCells]) (by simp) .nil (fun v hv => by cases hv) (by omega) (by simpa using hroom) (by simp) (by simp) sim rfl (fun h _ => h) hh
    cases n with
    | lit k =>
      cases k with
      | zero => exact zero rfl h
      | succ k =>
        simp only [appendT] at h
        obtain ⟨hr, h⟩ := roomN_inv h
        exact more (by simp [N.v]) hr h
    | sym k =>
      simp only [appendT] at h
      obtain ⟨hr, h⟩ := roomN_inv h
      by_cases hk0 : k = 0
      · have hk0' : (N.sym k).v = 0 := hk0
        have r1 := room_run (P := P) (ty := o.type) hτ hu hte hz (base := none) (sLen := 0) (sCap := 0) hlen hfirst (by omega) (W' := W) rfl
        rw [hk0'] at r1
        exact Oper.wp_value (hrun r1) (hK _ _ _ _ _ h Ext.refl (Sim.put (s := { s with heap := (s.next, some ⟨new, false⟩) :: s.heap, next := s.next + 1 }) ⟨sim.defers, sim.hr.unborn new, sim.tr⟩ hd (.acc0 hk0')) (nt_put _ _ _))
      · exact grow (old := []) (olds := []) (r := new) (m := .sym k) (s' := s) (X := .acc s.next (.sym k) ti.size) rfl (by simp [Builtin.firstCells]) (by simp) .nil (fun v hv => by cases hv) (by simp only [N.v]; omega) (by simpa using hr) (by simp) (by simp) sim rfl (fun h _ => .acc1 h) h
  | empty =>
    cases hvx
    rename_i ad
    have zero : n.v = 0 → (T.prop P G B Q (K (s.put o.dst .empty))) → o.wp P a W next Q' := by
      intro hn hh
      have hnil : news = [] := List.eq_nil_of_length_eq_zero (by rw [hnews, hn]; simp)
      have r1 := room_run (P := P) (ty := o.type) hτ hu hte hz (base := some ad) (sLen := 0) (sCap := 0) hlen hfirst (by omega) (W' := W) (by rw [hnil]; rfl)
      rw [hn] at r1
      exact Oper.wp_value (hrun r1) (hK _ _ _ _ _ hh Ext.refl (sim.put hd .empty) (nt_put _ _ _))
    have more : n.v ≠ 0 → n.v * ti.bytes ≤ 140737488355328 → (T.prop P G B Q (newSlice s o.dst n none ti.size new K)) → o.wp P a W next Q' := by
      intro hn hroom hh
      exact grow (old := []) (olds := []) (r := new) (m := n) (s' := s) rfl (by simp [Builtin.firstCells, loadCells, loadCellsFrom]) (by simp) .nil (fun v hv => by cases hv) (by omega) (by simpa using hroom) (by simp) (by simp) sim rfl (fun h _ => h) hh
    cases n with
    | lit k =>
      cases k with
      | zero => exact zero rfl h
      | succ k =>
        simp only [appendT] at h
        obtain ⟨hr, h⟩ := roomN_inv h
        exact more (by simp [N.v]) hr h
    | sym k =>
      simp only [appendT] at h
      by_cases hk0 : k = 0
      · exact zero hk0 (h.1 (by simpa using hk0))
      · have h := h.2 (by simpa using hk0)
        simp only [Bool.false_eq_true, if_false] at h
        obtain ⟨hr, h⟩ := roomN_inv h
        exact more hk0 hr h
  | own id off len cap z =>
    simp only [appendT] at h
    split at h
    · exact h.elim
    rename_i hz'
    have hzz : z = ti.size := by simpa using hz'
    subst hzz
    obtain ⟨⟨l, sh⟩, hb, h⟩ := heapT_inv h
    dsimp only at h
    split at h
    · exact h.elim
    rename_i hsh
    have hshf : sh = false := by simpa using hsh
    subst hshf
    cases hvx with
    | @own _ _ _ _ _ _ bb c' m oo cs0 e0 fr0 hm' ho' hr' hb' hcap hlen' hfit' =>
    subst hm' ho'
    obtain ⟨cs, eb, fr, q1, q2, q3, q4, q5, q6, q7⟩ := sim.hr.blk id l false bb hb hr'
    obtain ⟨q9, q8⟩ := q7 rfl
    clear q7
    have hcs0 : cs0 = cs := by rw [q2] at hb'; cases hb'; rfl
    subst hcs0
    -- it grows
    have more : ∀ {p : N} {old r : L} {m : N} {s' : St}, p.v = len.v * ti.size → off.v + p.v ≤ l.v.length → old.v = (l.v.drop off.v).take p.v → r.v = old.v ++ new.v → m.v = len.v + n.v → m.v * ti.bytes ≤ 140737488355328 → c' < m.v →
        Sim G W0 S0 Sh ρ s' a W → s'.nt = s.nt → (T.prop P G B Q (newSlice s' o.dst m none ti.size r K)) → o.wp P a W next Q' := by
      intro p old r m s' hp hfitp hold hr hm hroom hg sim' hnt hh
      obtain ⟨cs1, e1, fr1, t1, t2, t3, t4⟩ := lr_cells sim.hr.lr hb hr' off.v p.v hfitp
      have e1' : cs1 = cs0 := by rw [q2] at t1; cases t1; rfl
      subst e1'
      have hf := first_own (P := P) (sz := ti.size) (len := len.v) (cap := c') (off := off.v) q2 (by rw [← hp]; omega) W.drew rfl
      rw [hp] at t3 t4 hold
      refine grow (old := old.v) (r := r) (m := m) (s' := s') rfl hf (by rw [List.length_take, List.length_drop, Array.length_toList]; omega) (by rw [hold]; exact t3) t4 (by omega) (by rw [← hm]; exact hroom) hr hm sim' hnt (fun h _ => h) hh
    cases cap with
    | some c =>
      dsimp only at h
      have hcc := hcap c rfl
      obtain ⟨m, hm, h⟩ := addN_inv h
      -- it has room
      have room : m.v ≤ c.v → (T.prop P G B Q (mulN len ti.size fun p => addN off p fun p => mulN n ti.size fun q => writeL l p q new fun w => .evH (updH s.heap id (some ⟨w, false⟩)) fun h => K ({ s with heap := h }.put o.dst (.own id off m (some c) ti.size)))) → o.wp P a W next Q' := by
        intro hle hh
        obtain ⟨p, hp, hh⟩ := mulN_inv hh
        obtain ⟨p', hp', hh⟩ := addN_inv hh
        obtain ⟨q, hq, hh⟩ := mulN_inv hh
        obtain ⟨w1, w2, r, hr, hh⟩ := writeL_inv hh
        have hh : (T.prop P G B Q (K ({ s with heap := updH s.heap id (some ⟨r, false⟩) }.put o.dst (.own id off m (some c) ti.size)))) := hh
        obtain ⟨W', cs', r1, r2, r3, r4⟩ := run_storeBlk (P := P) bb p'.v eb fr news 0 W cs0 q2 (by omega) q8 hn1
        have hsz : cs'.size = cs0.size := by rw [← Array.length_toList, r4, length_write (by simp; omega)]; simp
        have hl0 : VRL Sh W ρ l.v (cs0.toList.take l.v.length) := ⟨by simp; omega, fun i x v p q => by
          rw [List.getElem?_take] at q
          split at q
          · exact q4 i x v p (by simpa using q)
          · cases q⟩
        obtain ⟨x1, x2⟩ := sim.hr.write (l' := r) hb hr' r2 q2 r3 hsz (by rw [hr, length_write (by omega)]; omega) (fun i x v pp qq => by
            have hw := hl0.write hnv p'.v
            rw [hr] at pp
            refine hw.2 i x v pp ?_
            have hi := (List.getElem?_eq_some_iff.1 pp).1
            rw [length_write (by omega)] at hi
            have q' : (Ax.write cs0.toList (p'.v + 0) news)[i]? = some v := by rw [← r4]; simpa using qq
            rw [Nat.add_zero] at q'
            rw [← q']
            have hcl : l.v.length ≤ cs0.toList.length := by simpa using q3
            rw [getElem?_write (by rw [List.length_take]; omega), getElem?_write (by omega), List.getElem?_take, if_pos hi]) (fun i v qq => by
            have q' : v ∈ cs'.toList := List.mem_of_getElem? (i := i) (by simpa using qq)
            rw [r4] at q'
            rcases mem_write q' with q' | q'
            · obtain ⟨j, hj⟩ := List.mem_iff_getElem?.1 q'
              exact q5 j v (by simpa using hj)
            · exact hn1 v q')
        have hst := room_run (P := P) (ty := o.type) hτ hu hte hz (base := some ⟨bb, off.v, none⟩) (sLen := len.v) (sCap := c') hlen hfirst (by omega) (W' := W') (by
          show (storeCells ((⟨bb, off.v, none⟩ : Addr).add (len.v * ti.size)) news).run P W = _
          rw [Addr.add_lit', show off.v + len.v * ti.size = p'.v by omega]; exact r1)
        refine Oper.wp_value (hrun hst) (hK _ _ _ _ _ hh x1 (Sim.put (s := { s with heap := updH s.heap id (some ⟨r, false⟩) }) ⟨sim.defers, x2, sim.tr.ext x1⟩ hd ?_) (nt_put _ _ _))
        exact .own hm rfl hr' r3 (fun c'' e => by cases e; exact hcc) (by omega) (by rw [hsz]; exact hfit')
      have no : c.v < m.v → (T.prop P G B Q (roomN m ti.bytes fun _ => mulN len ti.size fun p => subL l off p fun old => appL old new fun r => newSlice s o.dst m none ti.size r K)) → o.wp P a W next Q' := by
        intro hlt hh
        obtain ⟨hroom, hh⟩ := roomN_inv hh
        obtain ⟨p, hp, hh⟩ := mulN_inv hh
        obtain ⟨hf, old, hold, hh⟩ := subL_inv hh
        obtain ⟨r, hr, hh⟩ := appL_inv hh
        exact more hp hf hold hr hm hroom (by omega) sim rfl hh
      split at h
      · split at h
        · rename_i hle; exact room hle h
        · rename_i hle; exact no (by simp only [N.v]; omega) h
      · by_cases hle : m.v ≤ c.v
        · have h := h.1 (by simpa using hle)
          simp only [if_true] at h
          exact room hle h
        · have h := h.2 (by simpa using hle)
          simp only [Bool.false_eq_true, if_false] at h
          exact no (by omega) h
    | none =>
      dsimp only at h
      obtain ⟨hoff, h⟩ := eqN_inv h
      obtain ⟨p, hp, h⟩ := mulN_inv h
      obtain ⟨hll, h⟩ := sizeL_inv h
      obtain ⟨m, hm, h⟩ := addN_inv h
      obtain ⟨hroom, h⟩ := roomN_inv h
      obtain ⟨r, hr, h⟩ := appL_inv h
      have hoff0 : off.v = 0 := hoff
      exact whole (X := .own s.next (.lit 0) m none ti.size) hb (.own rfl (hoff0.symm ▸ rfl) hr' hb' hcap hlen' (by omega)) (by rw [← hp]; exact hll) hm hroom hr (fun h _ => h) h
  | acc id len z =>
    simp only [appendT] at h
    split at h
    · exact h.elim
    rename_i hz'
    have hzz : z = ti.size := by simpa using hz'
    subst hzz
    obtain ⟨⟨l, sh⟩, hb, h⟩ := heapT_inv h
    dsimp only at h
    split at h
    · exact h.elim
    rename_i hsh
    have hshf : sh = false := by simpa using hsh
    subst hshf
    obtain ⟨p, hp, h⟩ := mulN_inv h
    obtain ⟨hll, h⟩ := sizeL_inv h
    obtain ⟨m, hm, h⟩ := addN_inv h
    obtain ⟨hroom, h⟩ := roomN_inv h
    obtain ⟨r, hr, h⟩ := appL_inv h
    have h : (T.prop P G B Q (match n with
        | .lit (n + 1) => newSlice { s with heap := updH s.heap id none } o.dst m none ti.size r K
        | _ => K ({ s with heap := updH s.heap id none }.new o.dst (.acc s.next m ti.size) r))) := h
    rw [hp] at hll
    rcases hvx.acc_inv with ⟨rfl, h0⟩ | hvx
    · have hl0 : l.v = [] := List.eq_nil_of_length_eq_zero (by rw [hll, h0, Nat.zero_mul])
      have hk := sim.hr.kill hb
      have r1 := fun hn0 : n.v = 0 => room_run (P := P) (ty := o.type) hτ hu hte hz (base := none) (sLen := 0) (sCap := 0) hlen hfirst (by omega) (W' := W) rfl
      have zero : n.v = 0 → (T.prop P G B Q (K ({ s with heap := updH s.heap id none }.new o.dst (.acc s.next m ti.size) r))) → o.wp P a W next Q' := by
        intro hn hh
        have r1 := r1 hn
        rw [hn] at r1
        exact Oper.wp_value (hrun r1) (hK _ _ _ _ _ hh Ext.refl (Sim.put (s := { s with heap := (s.next, some ⟨r, false⟩) :: updH s.heap id none, next := s.next + 1 }) ⟨sim.defers, hk.unborn r, sim.tr⟩ hd (.acc0 (by omega))) (nt_put _ _ _))
      have more : n.v ≠ 0 → ∀ {X : AV}, (∀ {Sh W ρ v}, VR Sh W ρ (.own s.next (.lit 0) m none ti.size) v → Ty e W v → VR Sh W ρ X v) → (T.prop P G B Q (K ({ s with heap := updH s.heap id none }.new o.dst X r))) → o.wp P a W next Q' := by
        intro hn X hX hh
        exact grow (old := []) (olds := []) (r := r) (m := m) (s' := { s with heap := updH s.heap id none }) (X := X) rfl (by simp [Builtin.firstCells]) (by simp) .nil (fun v hv => by cases hv) (by omega) (by rw [Nat.zero_add]; rw [hm, h0, Nat.zero_add] at hroom; exact hroom) (by rw [hr, hl0]) (by omega) ⟨sim.defers, hk, sim.tr⟩ rfl hX hh
      split at h
      · exact more (by simp [N.v]) (fun h _ => h) h
      · by_cases hn : n.v = 0
        · exact zero hn h
        · exact more hn (fun h _ => .acc1 h) h
    · split at h
      · exact whole (X := .own s.next (.lit 0) m none ti.size) hb hvx hll hm hroom hr (fun h _ => h) h
      · exact whole (X := .acc s.next m ti.size) hb hvx hll hm hroom hr (fun h _ => .acc1 h) h
  | buf id len ty =>
    simp only [appendT] at h
    split at h
    · exact h.elim
    rename_i hz'
    have hz1 : ti.size = 1 := by
      by_cases q : 1 = ti.size
      · exact q.symm
      · exact absurd q hz'
    split at h
    · exact h.elim
    rename_i hty
    have hty : ty = e := by
      by_cases q : ty = e
      · exact q
      · exact absurd q hty
    subst hty
    obtain ⟨⟨l, sh⟩, hb, h⟩ := heapT_inv h
    dsimp only at h
    split at h
    · exact h.elim
    rename_i hsh
    have hshf : sh = false := by simpa using hsh
    subst hshf
    obtain ⟨p, hp, h⟩ := mulN_inv h
    obtain ⟨hll, h⟩ := sizeL_inv h
    obtain ⟨m, hm, h⟩ := addN_inv h
    obtain ⟨hroom, h⟩ := roomN_inv h
    obtain ⟨r, hr, h⟩ := appL_inv h
    have h : (T.prop P G B Q (K ({ s with heap := updH s.heap id none }.new o.dst (.buf s.next m ty) r))) := h
    rw [hp] at hll
    cases hvx with | buf hacc ht =>
    rcases hacc.acc_inv with ⟨rfl, h0⟩ | hvx
    · have hl0 : l.v = [] := List.eq_nil_of_length_eq_zero (by rw [hll, h0, Nat.zero_mul])
      have hk := sim.hr.kill hb
      by_cases hn : n.v = 0
      · have r1 := room_run (P := P) (ty := o.type) hτ hu hte hz (base := none) (sLen := 0) (sCap := 0) hlen hfirst (by omega) (W' := W) rfl
        rw [hn] at r1
        exact Oper.wp_value (hrun r1) (hK _ _ _ _ _ h Ext.refl (Sim.put (s := { s with heap := (s.next, some ⟨r, false⟩) :: updH s.heap id none, next := s.next + 1 }) ⟨sim.defers, hk.unborn r, sim.tr⟩ hd (.buf (.acc0 (by omega)) (fun _ _ _ _ _ q => by cases q))) (nt_put _ _ _))
      · exact grow (old := []) (olds := []) (r := r) (m := m) (s' := { s with heap := updH s.heap id none }) (X := .buf s.next m ty) rfl (by simp [Builtin.firstCells]) (by simp) .nil (fun v hv => by cases hv) (by omega) (by rw [Nat.zero_add]; rw [hm, h0, Nat.zero_add] at hroom; exact hroom) (by rw [hr, hl0]) (by omega) ⟨sim.defers, hk, sim.tr⟩ rfl (fun h t => .buf (.acc1 (hz1 ▸ h)) t) h
    · exact whole (X := .buf s.next m ty) hb (hz1.symm ▸ hvx) hll hm hroom hr (fun h t => .buf (.acc1 (hz1 ▸ h)) (t ht)) h
  | _ => exact h.elim
end
end
end Go.Ax
