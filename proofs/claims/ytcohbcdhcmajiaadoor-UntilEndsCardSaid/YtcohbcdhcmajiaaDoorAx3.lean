/-
  The small abstract machine: contracts, reading of own blocks.
-/
import Derived.Test.YtcohbcdhcmajiaaDoorAx2
namespace Go.Ax
open Go.RowKit
set_option linter.unusedVariables false

/-- The blocks that are there, beside those that stay. -/
def live (Sh : Nat → Prop) (ρ : Rho) (H : Heap) (b : Nat) : Prop := Sh b ∨ ∃ id x, look H id = some (some x) ∧ ρ id = some b

section
variable {P : Program} {G : Nat → Option (List AV)}

theorem HRel.live_lt {W0 S0 Sh ρ H n W} (h : HRel G W0 S0 Sh ρ H n W) {b} (hb : live Sh ρ H b) : b < W.heap.size := by
  rcases hb with hb | ⟨id, ⟨l, sh⟩, hl, hr⟩
  · exact h.slt b hb
  · obtain ⟨cs, e, fr, _, hc, _⟩ := h.blk id l sh b hl hr
    exact (Array.getElem?_eq_some_iff.1 hc).1

theorem GR.mono {Sh W Sh' W'} (h : GR G Sh W) (hs : ∀ b, Sh b → Sh' b) (hk : ∀ b, Sh b → W'.heap[b]? = W.heap[b]?) : GR G Sh' W' := by
  intro g cells hg
  obtain ⟨h1, cs, e, fr, hb, hsz⟩ := h g cells hg
  cases h1 with
  | ref hsp hS ho hl hc hv h1 =>
    refine ⟨?_, cs, e, fr, (hk _ hS).trans hb, hsz⟩
    refine .ref hsp (hs _ hS) ho hl (fun i v q => (cell_of_heap (hk _ hS)).trans (hc i v q)) (fun i x v p q => ?_) h1
    -- the cells' own values
    have : ∀ {y : AV} {w : Value} {r : Rho}, VR Sh W r y w → r = (fun _ => none) → VR Sh' W' (fun _ => none) y w := by
      intro y w r hh
      induction hh with
      | bool => intro _; exact .bool
      | int h => intro _; exact .int h
      | str h => intro _; exact .str h
      | nil => intro _; exact .nil
      | empty => intro _; exact .empty
      | list hm hn hsp hS hl hc hv h1 ih => intro _; exact .list hm hn hsp (hs _ hS) hl (fun i v q => (cell_of_heap (hk _ hS)).trans (hc i v q)) (fun i x v p q => ih i x v p q rfl) h1
      | seq hs h ih => intro e; exact .seq hs (ih e)
      | own hm ho hr' => intro e; subst e; cases hr'
      | acc0 h => intro _; exact .acc0 h
      | acc1 h ih => intro e; exact .acc1 (ih e)
      | nilptr => intro _; exact .nilptr
      | ptr hr' => intro e; subst e; cases hr'
      | ref hsp hS ho hl hc hv h1 ih => intro _; exact .ref hsp (hs _ hS) ho hl (fun i v q => (cell_of_heap (hk _ hS)).trans (hc i v q)) (fun i x v p q => ih i x v p q rfl) h1
      | agg hl hv h1 ih => intro e; exact .agg hl (fun i x v p q => ih i x v p q e) h1
      | tuple hl hv ih => intro e; exact .tuple hl fun i x v p q => ih i x v p q e
      | nilFunc => intro _; exact .nilFunc
      | func hl hv hl' hv' ih ih' => intro e; exact .func hl (fun i x v p q => ih i x v p q e) hl' fun i x v p q => ih' i x v p q e
      | nilIface => intro _; exact .nilIface
      | apt hr' => intro e; subst e; cases hr'
      | buf h ht ih =>
        intro e
        refine .buf (ih e) fun b o s m c q => ?_
        subst e
        rcases h.acc_inv with ⟨h0, _⟩ | h
        · rw [h0] at q; cases q
        · cases h with | own _ _ hr' => cases hr'
      | iface h ih => intro e; exact .iface (ih e)
    exact this (hv i x v p q) rfl

theorem VR.of_none {Sh W x v} (h : VR Sh W (fun _ => none) x v) (ρ : Rho) : VR Sh W ρ x v :=
  h.mono (fun _ h => h) (fun _ _ => rfl) (fun b cs e fr h => ⟨cs, fr, h, rfl⟩) ρ (fun _ _ h => by cases h)

theorem cell_of_row {W : World} {b : Nat} {cs : Array Value} {e : TypeId} {fr : Nat × Nat} (h : W.heap[b]? = some (.cells cs e fr)) (o : Nat) : W.cell? ⟨b, o, none⟩ = cs[o]? := by
  unfold World.cell?; simp [h]

/-- Own blocks, read. -/
theorem Frz.read {W0 S0 Sh ρ H n W} (hH : HRel G W0 S0 Sh ρ H n W) {x y : AV} (hf : Frz H x y) : ∀ v, VR Sh W ρ x v → VR (live Sh ρ H) W (fun _ => none) y v := by
  have up : ∀ {x v r}, VR Sh W r x v → VR (live Sh ρ H) W r x v := fun h => h.mono (fun _ h => .inl h) (fun _ _ => rfl) (fun b cs e fr h => ⟨cs, fr, h, rfl⟩) _ (fun _ _ h => h)
  induction hf with
  | closed h => intro v hv; exact up (hv.closed h)
  | @own id off len cap sz l sh n b cells h hf hn hl hc ih =>
    intro v hv
    cases hv with
    | @own _ _ _ _ _ _ bb c m o cs0 e0 fr0 hm ho hr hb hcap hlen hfit =>
      obtain ⟨cs, e, fr, h1, h2, h3, h4, h5⟩ := hH.blk id l sh bb h hr
      obtain rfl : cs0 = cs := by rw [hb] at h2; cases h2; rfl
      refine .list (vs := (cs0.toList.drop o).take (len.v * sz)) (hn.trans hm) hlen rfl (.inr ⟨id, _, h, hr⟩) ?_ ?_ ?_ (fun v hm => by
        obtain ⟨i, hi⟩ := List.mem_iff_getElem?.1 (List.mem_of_mem_drop (List.mem_of_mem_take hm))
        exact h5.1 i v (by simpa using hi))
      · simp only [List.length_take, List.length_drop, Array.length_toList, hl]; omega
      · intro i v q
        rw [List.getElem?_take] at q
        split at q
        · rw [cell_of_row hb]; simpa using q
        · cases q
      · intro i y v p q
        rw [List.getElem?_take] at q
        split at q
        · rename_i hi
          have q' : cs0[o + i]? = some v := by simpa using q
          have hlt : off.v + i < l.v.length := by omega
          have hx : l.v[off.v + i]? = some l.v[off.v + i] := List.getElem?_eq_getElem hlt
          exact ih i _ y hx p v (h4 _ _ v hx (by rw [ho]; exact q'))
        · cases q
  | acc h hs hn hz ih =>
    intro v hv
    cases hv with
    | acc0 h0 => rw [hz h0]; exact .seq (.nil (hn.trans h0)) .nil
    | acc1 h1 => exact .seq hs (ih v h1)
  | @ptr id off l sh b cells o h hl ho hc ih =>
    intro v hv
    cases hv with
    | @ptr _ _ _ bb oo hr ho' =>
      obtain ⟨cs, e, fr, h1, h2, h3, h4, h5⟩ := hH.blk id l sh bb h hr
      refine .ref (vs := cs.toList.take l.v.length) rfl (.inr ⟨id, _, h, hr⟩) (by show _ ≤ oo; omega) ?_ ?_ ?_ (fun v hm => by
        obtain ⟨i, hi⟩ := List.mem_iff_getElem?.1 (List.mem_of_mem_take hm)
        exact h5.1 i v (by simpa using hi))
      · simp only [List.length_take, Array.length_toList, hl]; omega
      · intro i v q
        rw [List.getElem?_take] at q
        split at q
        · show W.cell? ⟨bb, oo - o.v + i, none⟩ = _
          rw [show oo - o.v + i = i by omega, cell_of_row h2]; simpa using q
        · cases q
      · intro i y v p q
        rw [List.getElem?_take] at q
        split at q
        · rename_i hi
          have hx : l.v[i]? = some l.v[i] := List.getElem?_eq_getElem hi
          exact ih i _ y hx p v (h4 _ _ v hx (by simpa using q))
        · cases q
  | agg hl hv ih =>
    intro v hv
    cases hv with
    | agg hl' hv' h1 =>
      refine .agg (hl'.trans hl.symm) (fun i y w p q => ?_) h1
      have hi := (List.getElem?_eq_some_iff.1 p).1
      exact ih i _ y (List.getElem?_eq_getElem (by omega)) p w (hv' i _ w (List.getElem?_eq_getElem (by omega)) q)
  | tuple hl hv ih =>
    intro v hv
    cases hv with
    | tuple hl' hv' =>
      refine .tuple (hl'.trans hl.symm) (fun i y w p q => ?_)
      have hi := (List.getElem?_eq_some_iff.1 p).1
      exact ih i _ y (List.getElem?_eq_getElem (by omega)) p w (hv' i _ w (List.getElem?_eq_getElem (by omega)) q)
  | func hl hv hl2 hv2 ih ih2 =>
    intro v hv
    cases hv with
    | func hl' hv' hl2' hv2' =>
      refine .func (hl'.trans hl.symm) (fun i y w p q => ?_) (hl2'.trans hl2.symm) (fun i y w p q => ?_)
      · have hi := (List.getElem?_eq_some_iff.1 p).1
        exact ih i _ y (List.getElem?_eq_getElem (by omega)) p w (hv' i _ w (List.getElem?_eq_getElem (by omega)) q)
      · have hi := (List.getElem?_eq_some_iff.1 p).1
        exact ih2 i _ y (List.getElem?_eq_getElem (by omega)) p w (hv2' i _ w (List.getElem?_eq_getElem (by omega)) q)
  | iface h ih => intro v hv; cases hv with | iface hv => exact .iface (ih _ hv)
  | seq h hs ih => intro v hv; exact .seq hs (ih v hv)
  | lit h => intro v hv; cases hv with | int e => exact .int (h.symm.trans e)
  | slit h => intro v hv; cases hv with | str e => exact .str (e.trans h)

theorem FrzL.read {W0 S0 Sh ρ H n W} (hH : HRel G W0 S0 Sh ρ H n W) {l m : List AV} (hf : FrzL H l m) {vs} (hv : VRL Sh W ρ l vs) : VRL (live Sh ρ H) W (fun _ => none) m vs := by
  refine ⟨hv.1.trans hf.1.symm, fun i y v p q => ?_⟩
  have hi := (List.getElem?_eq_some_iff.1 p).1
  have hx : l[i]? = some (l[i]'(by have := hf.1; omega)) := List.getElem?_eq_getElem _
  exact (hf.2 i _ y hx p).read hH v (hv.2 i _ v hx q)

/-- Behind a call that only makes memory. -/
theorem HRel.call {W0 S0 Sh ρ H n W W' Sh'} (h : HRel G W0 S0 Sh ρ H n W) (hb : Below W.heap.size W W') (hs : ∀ b, Sh b → Sh' b) (hn : ∀ b, Sh' b → Sh b ∨ W.heap.size ≤ b) (hl : ∀ b, Sh' b → b < W'.heap.size) :
    Ext Sh ρ W Sh' ρ W' ∧ HRel G W0 S0 Sh' ρ H n W' := by
  have e : Ext Sh ρ W Sh' ρ W' := ⟨hs, fun _ _ h => h, fun b q => hb.block b (h.slt b q), fun b cs e fr q => ⟨cs, fr, by rw [hb.block b (Array.getElem?_eq_some_iff.1 q).1]; exact q, rfl⟩⟩
  refine ⟨e, ⟨h.below.trans (hb.mono h.below.size), ?_, h.inj, h.fresh, hl, fun b q => ?_, h.glob.mono hs e.keep, h.dom⟩⟩
  rotate_left
  · rcases hn b q with q | q
    · exact h.grow b q
    · exact .inr (Nat.le_trans h.below.size q)
  intro id l sh b hk hr
  obtain ⟨cs, e', fr, h1, h2, h3, h4, h5, h6, h7⟩ := h.blk id l sh b hk hr
  have hlt := (Array.getElem?_eq_some_iff.1 h2).1
  exact ⟨cs, e', fr, h1, by rw [hb.block b hlt]; exact h2, h3, fun i x v p q => (h4 i x v p q).ext e, h5, fun q => hs b (h6 q), fun q => ⟨fun q' => by
    rcases hn b q' with q' | q'
    · exact (h7 q).1 q'
    · omega, (h7 q).2⟩⟩

theorem FnA.use {f : Nat} {args fargs : List AV} {res : AV} {H : Heap} {n : Nat} (hf : FrzL H args fargs) (h : FnA P G f fargs res) (hr : Flat res ∨ ∀ x ∈ args, Closed x)
    {W0 S0 Sh ρ W vs} (hH : HRel G W0 S0 Sh ρ H n W) (hv : VRL Sh W ρ args vs) :
    CallsX P f vs.toArray W fun e W' => ∃ v Sh', e = .returned v ∧ Ext Sh ρ W Sh' ρ W' ∧ HRel G W0 S0 Sh' ρ H n W' ∧ VR Sh' W' ρ res v := by
  rcases hr with hr | hr
  · refine (h.out (live Sh ρ H) W vs (hH.glob.mono (fun _ h => .inl h) (fun _ _ => rfl)) (fun b q => hH.live_lt q) (hf.read hH hv)).mono ?_
    rintro e W' ⟨v, Sh', rfl, hb, h1, h2, h3, h4⟩
    obtain ⟨e1, e2⟩ := hH.call hb (fun _ h => h) (fun _ h => .inl h) (fun b q => Nat.lt_of_lt_of_le (hH.slt b q) hb.size)
    exact ⟨v, Sh, rfl, e1, e2, h4.flat hr _ _ _⟩
  · have hv' : VRL Sh W (fun _ => none) fargs vs := by
      refine ⟨hv.1.trans hf.1.symm, fun i y v p q => ?_⟩
      have hi := (List.getElem?_eq_some_iff.1 p).1
      have hx : args[i]? = some (args[i]'(by have := hf.1; omega)) := List.getElem?_eq_getElem _
      have hc := hr _ (List.mem_of_getElem? hx)
      have hfz := hf.2 i _ y hx p
      have hvv := (hv.2 i _ v hx q).closed hc
      -- a closed value, frozen over no memory
      have key : ∀ {a b : AV}, Frz H a b → Closed a → ∀ w, VR Sh W (fun _ => none) a w → VR Sh W (fun _ => none) b w := by
        intro a b hab
        induction hab with
        | closed h => intro _ w hw; exact hw
        | own => intro hc; cases hc
        | acc => intro hc; cases hc
        | ptr => intro hc; cases hc
        | agg hl hv ih =>
          intro hc w hw
          cases hc with | agg hc =>
          cases hw with | agg hl' hv' h1 =>
          refine .agg (hl'.trans hl.symm) (fun i y w p q => ?_) h1
          have hi := (List.getElem?_eq_some_iff.1 p).1
          exact ih i _ y (List.getElem?_eq_getElem (by omega)) p (hc _ (List.getElem_mem _)) w (hv' i _ w (List.getElem?_eq_getElem (by omega)) q)
        | tuple hl hv ih =>
          intro hc w hw
          cases hc with | tuple hc =>
          cases hw with | tuple hl' hv' =>
          refine .tuple (hl'.trans hl.symm) (fun i y w p q => ?_)
          have hi := (List.getElem?_eq_some_iff.1 p).1
          exact ih i _ y (List.getElem?_eq_getElem (by omega)) p (hc _ (List.getElem_mem _)) w (hv' i _ w (List.getElem?_eq_getElem (by omega)) q)
        | func hl hv hl2 hv2 ih ih2 =>
          intro hc w hw
          cases hc with | func hc hc2 =>
          cases hw with | func hl' hv' hl2' hv2' =>
          refine .func (hl'.trans hl.symm) (fun i y w p q => ?_) (hl2'.trans hl2.symm) (fun i y w p q => ?_)
          · have hi := (List.getElem?_eq_some_iff.1 p).1
            exact ih i _ y (List.getElem?_eq_getElem (by omega)) p (hc _ (List.getElem_mem _)) w (hv' i _ w (List.getElem?_eq_getElem (by omega)) q)
          · have hi := (List.getElem?_eq_some_iff.1 p).1
            exact ih2 i _ y (List.getElem?_eq_getElem (by omega)) p (hc2 _ (List.getElem_mem _)) w (hv2' i _ w (List.getElem?_eq_getElem (by omega)) q)
        | iface h ih => intro hc w hw; cases hc with | iface hc => cases hw with | iface hw => exact .iface (ih hc _ hw)
        | seq h hs ih => intro hc w hw; exact .seq hs (ih hc w hw)
        | lit h => intro hc w hw; cases hw with | int e => exact .int (h.symm.trans e)
        | slit h => intro hc w hw; cases hw with | str e => exact .str (e.trans h)
      exact key hfz hc v hvv
    refine (h.out Sh W vs hH.glob hH.slt hv').mono ?_
    rintro e W' ⟨v, Sh', rfl, hb, h1, h2, h3, h4⟩
    obtain ⟨e1, e2⟩ := hH.call hb h1 h2 h3
    exact ⟨v, Sh', rfl, e1, e2, h4.of_none ρ⟩

theorem CallA.of_fn {f : Nat} {args fargs : List AV} {res : AV} {H : Heap} {n : Nat} {Q : AV → Heap → Nat → Prop} (hf : FrzL H args fargs) (h : FnA P G f fargs res) (hr : Flat res ∨ ∀ x ∈ args, Closed x)
    (q : Q res H n) : CallA P G f args H n Q := by
  constructor
  intro W0 S0 Sh ρ W vs hH hv
  refine (h.use hf hr hH hv).mono ?_
  rintro e W' ⟨v, Sh', rfl, e1, e2, e3⟩
  exact ⟨res, v, H, n, Sh', ρ, rfl, q, e1, e2, e3⟩

/-- A function by its body, without own blocks at the start. -/
theorem FnA.of_call {f : Nat} {args : List AV} {res : AV} (h : CallA P G f args [] 0 fun x H n => Frz H x res) : FnA P G f args res := by
  constructor
  intro Sh W vs hG hS hv
  have hH : HRel G W Sh Sh (fun _ => none) [] 0 W := ⟨Below.refl _ _, (fun id l sh b h => by cases h), (fun id id' l x b h => by cases h), fun _ _ => rfl, hS, fun _ h => .inl h, hG, fun id x h => by cases h⟩
  refine (h.out W Sh Sh _ W vs hH hv).mono ?_
  rintro e W' ⟨x, v, H', n', Sh', ρ', rfl, hq, he, hH', hx⟩
  refine ⟨v, live Sh' ρ' H', rfl, hH'.below, fun b q => .inl (he.sh b q), ?_, fun b q => hH'.live_lt q, hq.read hH' v hx⟩
  rintro b (q | ⟨id, ⟨l, sh⟩, hl, hr⟩)
  · exact hH'.grow b q
  · obtain ⟨cs, e, fr, h1, _⟩ := hH'.blk id l sh b hl hr
    exact .inr h1
end
end Go.Ax
