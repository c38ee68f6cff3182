/-
  The small abstract machine: what its values mean in a world, and what it is to be right.
-/
import Derived.Test.YtcohbcdhcmajiaaDoorAx1
namespace Go.Ax
open Go.RowKit
set_option linter.unusedVariables false

abbrev Rho := Nat → Option Nat

/-- What a row may be. -/
inductive SeqOf : AV → N → List AV → Prop where
  | nil {n} (h : N.v n = 0) : SeqOf .nil n []
  | empty {n} (h : N.v n = 0) : SeqOf .empty n []
  | list {m n lit cells} (h : N.v m = n.v) : SeqOf (.list m lit cells) n cells

/-- An abstract value, and a value in a world: 'Sh' are the blocks that stay as they are, 'ρ' tells the own blocks. -/
inductive VR (Sh : Nat → Prop) (W : World) : Rho → AV → Value → Prop where
  | bool {ρ b} : VR Sh W ρ (.bool b) (.bool b)
  | int {ρ k n m} (h : n.v = m) : VR Sh W ρ (.int k n) (.int k m)
  | str {ρ} {s : S} {b : ByteArray} (h : b.data.toList = s.v) : VR Sh W ρ (.str s) (.string b)
  | nil {ρ} : VR Sh W ρ .nil (.slice none 0 0)
  | empty {ρ a} : VR Sh W ρ .empty (.slice (some a) 0 0)
  | list {ρ n lit cells a c m} {vs : List Value} (hm : n.v = m) (hn : m ≤ c) (hsp : a.spot = none) (hS : Sh a.block) (hl : vs.length = cells.length)
      (hc : ∀ (i : Nat) (v : Value), vs[i]? = some v → W.cell? ⟨a.block, a.off + i, none⟩ = some v)
      (hv : ∀ (i : Nat) (x : AV) (v : Value), cells[i]? = some x → vs[i]? = some v → VR Sh W (fun _ => none) x v) (h1 : ∀ v ∈ vs, v.oneCell' = true) : VR Sh W ρ (.list n lit cells) (.slice (some a) m c)
  | seq {ρ n cells x v} (hs : SeqOf x n cells) (h : VR Sh W ρ x v) : VR Sh W ρ (.seq n cells) v
  | own {ρ id off len cap sz b c m o} {cs : Array Value} {e : TypeId} {fr : Nat × Nat} (hm : len.v = m) (ho : off.v = o) (hr : ρ id = some b) (hb : W.heap[b]? = some (.cells cs e fr)) (hcap : ∀ c', cap = some c' → N.v c' = c) (hlen : m ≤ c)
      (hfit : o + c * sz ≤ cs.size) : VR Sh W ρ (.own id off len cap sz) (.slice (some ⟨b, o, none⟩) m c)
  | acc0 {ρ id len sz} (h : N.v len = 0) : VR Sh W ρ (.acc id len sz) (.slice none 0 0)
  | acc1 {ρ id len sz v} (h : VR Sh W ρ (.own id (.lit 0) len none sz) v) : VR Sh W ρ (.acc id len sz) v
  | nilptr {ρ} : VR Sh W ρ .nilptr (.pointer none)
  | ptr {ρ id off b o} (hr : ρ id = some b) (ho : off.v = o) : VR Sh W ρ (.ptr id off) (.pointer (some ⟨b, o, none⟩))
  | ref {ρ lit cells off a} {vs : List Value} (hsp : a.spot = none) (hS : Sh a.block) (ho : off.v ≤ a.off) (hl : vs.length = cells.length)
      (hc : ∀ (i : Nat) (v : Value), vs[i]? = some v → W.cell? ⟨a.block, a.off - off.v + i, none⟩ = some v)
      (hv : ∀ (i : Nat) (x : AV) (v : Value), cells[i]? = some x → vs[i]? = some v → VR Sh W (fun _ => none) x v) (h1 : ∀ v ∈ vs, v.oneCell' = true) : VR Sh W ρ (.ref lit cells off) (.pointer (some a))
  | agg {ρ lit cells} {vs : Array Value} (hl : vs.size = cells.length) (hv : ∀ (i : Nat) (x : AV) (v : Value), cells[i]? = some x → vs[i]? = some v → VR Sh W ρ x v)
      (h1 : ∀ (i : Nat) (v : Value), vs[i]? = some v → v.oneCell' = true) : VR Sh W ρ (.agg lit cells) (.agg vs)
  | tuple {ρ cells} {vs : Array Value} (hl : vs.size = cells.length) (hv : ∀ (i : Nat) (x : AV) (v : Value), cells[i]? = some x → vs[i]? = some v → VR Sh W ρ x v) : VR Sh W ρ (.tuple cells) (.tuple vs)
  | nilFunc {ρ} : VR Sh W ρ .nilFunc .nilFunc
  | func {ρ f as bs} {vs ws : Array Value} (hl : vs.size = as.length) (hv : ∀ (i : Nat) (x : AV) (v : Value), as[i]? = some x → vs[i]? = some v → VR Sh W ρ x v)
      (hl' : ws.size = bs.length) (hv' : ∀ (i : Nat) (x : AV) (v : Value), bs[i]? = some x → ws[i]? = some v → VR Sh W ρ x v) : VR Sh W ρ (.func f as bs) (.func (.func f) vs ws)
  | nilIface {ρ} : VR Sh W ρ .nilIface .nilIface
  | apt {ρ id ty b v} {cs : Array Value} {fr : Nat × Nat} (hr : ρ id = some b) (hb : W.heap[b]? = some (.cells cs ty fr)) (hz : cs.size = 2) (hv : v = .pointer none ∨ v = .pointer (some ⟨b, 0, none⟩)) : VR Sh W ρ (.apt id ty) v
  | buf {ρ id len ty v} (h : VR Sh W ρ (.acc id len 1) v) (ht : ∀ b o s m c, v = .slice (some ⟨b, o, s⟩) m c → ∃ (cs : Array Value) (fr : Nat × Nat), W.heap[b]? = some (.cells cs ty fr)) : VR Sh W ρ (.buf id len ty) v
  | iface {ρ t x v} (h : VR Sh W ρ x v) : VR Sh W ρ (.iface t x) (.iface t v)

theorem VR.seq_inv {Sh : Nat → Prop} {W : World} {ρ : Rho} {n cells v} (h : VR Sh W ρ (.seq n cells) v) :
    (v = .slice none 0 0 ∧ n.v = 0 ∧ cells = []) ∨ (∃ a, v = .slice (some a) 0 0 ∧ n.v = 0 ∧ cells = []) ∨ VR Sh W ρ (.list n false cells) v := by
  cases h with
  | seq hs h =>
    cases hs with
    | nil hn => cases h; exact .inl ⟨rfl, hn, rfl⟩
    | empty hn => cases h; exact .inr (.inl ⟨_, rfl, hn, rfl⟩)
    | list hn => cases h with | list hm a b c d e f g => exact .inr (.inr (.list (hn.symm.trans hm) a b c d e f g))
theorem VR.acc_inv {Sh : Nat → Prop} {W : World} {ρ : Rho} {id len sz v} (h : VR Sh W ρ (.acc id len sz) v) : (v = .slice none 0 0 ∧ len.v = 0) ∨ VR Sh W ρ (.own id (.lit 0) len none sz) v := by
  cases h with
  | acc0 h => exact .inl ⟨rfl, h⟩
  | acc1 h => exact .inr h
theorem VR.of_list {Sh : Nat → Prop} {W : World} {ρ : Rho} {n b cells v} (h : VR Sh W ρ (.list n b cells) v) : VR Sh W ρ (.seq n cells) v := .seq (.list rfl) h

/-- A later world. -/
structure Ext (Sh : Nat → Prop) (ρ : Rho) (W : World) (Sh' : Nat → Prop) (ρ' : Rho) (W' : World) : Prop where
  sh : ∀ b, Sh b → Sh' b
  rho : ∀ id b, ρ id = some b → ρ' id = some b
  keep : ∀ b, Sh b → W'.heap[b]? = W.heap[b]?
  shape : ∀ (b : Nat) (cs : Array Value) (e : TypeId) (fr : Nat × Nat), W.heap[b]? = some (.cells cs e fr) → ∃ (cs' : Array Value) (fr' : Nat × Nat), W'.heap[b]? = some (.cells cs' e fr') ∧ cs'.size = cs.size

theorem Ext.refl {Sh ρ W} : Ext Sh ρ W Sh ρ W := ⟨fun _ h => h, fun _ _ h => h, fun _ _ => rfl, fun b cs e fr h => ⟨cs, fr, h, rfl⟩⟩
theorem Ext.trans {A ρ W A' ρ' W' A'' ρ'' W''} (h : Ext A ρ W A' ρ' W') (k : Ext A' ρ' W' A'' ρ'' W'') : Ext A ρ W A'' ρ'' W'' :=
  ⟨fun b q => k.sh b (h.sh b q), fun id b q => k.rho id b (h.rho id b q), fun b q => (k.keep b (h.sh b q)).trans (h.keep b q), fun b cs e fr q => by
    obtain ⟨cs', fr', q', s⟩ := h.shape b cs e fr q
    obtain ⟨cs'', fr'', q'', s'⟩ := k.shape b cs' e fr' q'
    exact ⟨cs'', fr'', q'', s'.trans s⟩⟩

theorem cell_of_heap {W W' : World} {b o : Nat} {s : Option Nat} (h : W'.heap[b]? = W.heap[b]?) : W'.cell? ⟨b, o, s⟩ = W.cell? ⟨b, o, s⟩ := by
  unfold World.cell?; simp only [h]

/-- Values mean the same later. -/
theorem VR.mono {Sh ρ W Sh' W'} (hs : ∀ b, Sh b → Sh' b) (hk : ∀ b, Sh b → W'.heap[b]? = W.heap[b]?)
    (hsh : ∀ (b : Nat) (cs : Array Value) (e : TypeId) (fr : Nat × Nat), W.heap[b]? = some (.cells cs e fr) → ∃ (cs' : Array Value) (fr' : Nat × Nat), W'.heap[b]? = some (.cells cs' e fr') ∧ cs'.size = cs.size) {x : AV} {v : Value} (h : VR Sh W ρ x v) :
    ∀ ρ', (∀ id b, ρ id = some b → ρ' id = some b) → VR Sh' W' ρ' x v := by
  induction h with
  | bool => intro ρ' hr; exact .bool
  | int h => intro ρ' hr; exact .int h
  | str h => intro ρ' hr; exact .str h
  | nil => intro ρ' hr; exact .nil
  | empty => intro ρ' hr; exact .empty
  | list hm hn hsp hS hl hc hv h1 ih => intro ρ' hr; exact .list hm hn hsp (hs _ hS) hl (fun i v q => (cell_of_heap (hk _ hS)).trans (hc i v q)) (fun i x v p q => ih i x v p q _ (fun _ _ e => e)) h1
  | seq hs h ih => intro ρ' hr; exact .seq hs (ih _ hr)
  | own hm ho hr' hb hcap hlen hfit => intro ρ' hr; obtain ⟨cs', fr', q, s⟩ := hsh _ _ _ _ hb; exact .own hm ho (hr _ _ hr') q hcap hlen (by omega)
  | acc0 h => intro ρ' hr; exact .acc0 h
  | acc1 h ih => intro ρ' hr; exact .acc1 (ih _ hr)
  | nilptr => intro ρ' hr; exact .nilptr
  | ptr hr' ho => intro ρ' hr; exact .ptr (hr _ _ hr') ho
  | ref hsp hS ho hl hc hv h1 ih => intro ρ' hr; exact .ref hsp (hs _ hS) ho hl (fun i v q => (cell_of_heap (hk _ hS)).trans (hc i v q)) (fun i x v p q => ih i x v p q _ (fun _ _ e => e)) h1
  | agg hl hv h1 ih => intro ρ' hr; exact .agg hl (fun i x v p q => ih i x v p q _ hr) h1
  | tuple hl hv ih => intro ρ' hr; exact .tuple hl fun i x v p q => ih i x v p q _ hr
  | nilFunc => intro ρ' hr; exact .nilFunc
  | func hl hv hl' hv' ih ih' => intro ρ' hr; exact .func hl (fun i x v p q => ih i x v p q _ hr) hl' fun i x v p q => ih' i x v p q _ hr
  | nilIface => intro ρ' hr; exact .nilIface
  | apt hr' hb hz hv => intro ρ' hr; obtain ⟨cs', fr', q, s⟩ := hsh _ _ _ _ hb; exact .apt (hr _ _ hr') q (s.trans hz) hv
  | buf h ht ih => intro ρ' hr; exact .buf (ih _ hr) fun b o s m c e => by obtain ⟨cs, fr, q⟩ := ht b o s m c e; obtain ⟨cs', fr', q', _⟩ := hsh _ _ _ _ q; exact ⟨cs', fr', q'⟩
  | iface h ih => intro ρ' hr; exact .iface (ih _ hr)
theorem VR.ext {Sh ρ W Sh' ρ' W'} (e : Ext Sh ρ W Sh' ρ' W') {x v} (h : VR Sh W ρ x v) : VR Sh' W' ρ' x v := h.mono e.sh e.keep e.shape _ e.rho

/-- Lists of values. -/
def VRL (Sh : Nat → Prop) (W : World) (ρ : Rho) (l : List AV) (vs : List Value) : Prop :=
  vs.length = l.length ∧ ∀ (i : Nat) (x : AV) (v : Value), l[i]? = some x → vs[i]? = some v → VR Sh W ρ x v
theorem VRL.nil {Sh W ρ} : VRL Sh W ρ [] [] := ⟨rfl, fun i x v h => by simp at h⟩
theorem VRL.cons {Sh W ρ x v l vs} (h : VR Sh W ρ x v) (hl : VRL Sh W ρ l vs) : VRL Sh W ρ (x :: l) (v :: vs) := by
  refine ⟨by simp [hl.1], fun i y w p q => ?_⟩
  cases i with
  | zero => simp at p q; subst p; subst q; exact h
  | succ i => simp at p q; exact hl.2 i y w p q
theorem VRL.uncons {Sh W ρ x l vs} (h : VRL Sh W ρ (x :: l) vs) : ∃ v ws, vs = v :: ws ∧ VR Sh W ρ x v ∧ VRL Sh W ρ l ws := by
  obtain ⟨hl, hv⟩ := h
  cases vs with
  | nil => simp at hl
  | cons v ws => exact ⟨v, ws, rfl, hv 0 x v rfl rfl, by simpa using hl, fun i y w p q => hv (i + 1) y w (by simpa using p) (by simpa using q)⟩
theorem VRL.unnil {Sh W ρ vs} (h : VRL Sh W ρ [] vs) : vs = [] := by have := h.1; simpa using this
theorem VRL.append {Sh W ρ l vs m ws} (h : VRL Sh W ρ l vs) (k : VRL Sh W ρ m ws) : VRL Sh W ρ (l ++ m) (vs ++ ws) := by
  refine ⟨by simp [h.1, k.1], fun i x v p q => ?_⟩
  by_cases hi : i < l.length
  · rw [List.getElem?_append_left hi] at p
    rw [List.getElem?_append_left (by rw [h.1]; exact hi)] at q
    exact h.2 i x v p q
  · rw [List.getElem?_append_right (by omega)] at p
    rw [List.getElem?_append_right (by rw [h.1]; omega), h.1] at q
    exact k.2 _ x v p q
theorem VRL.ext {Sh ρ W Sh' ρ' W'} (e : Ext Sh ρ W Sh' ρ' W') {x v} (h : VRL Sh W ρ x v) : VRL Sh' W' ρ' x v := ⟨h.1, fun i a b p q => (h.2 i a b p q).ext e⟩
theorem VRL.drop {Sh W ρ l vs} (h : VRL Sh W ρ l vs) (n : Nat) : VRL Sh W ρ (l.drop n) (vs.drop n) :=
  ⟨by simp [h.1], fun i x v p q => h.2 (n + i) x v (by simpa using p) (by simpa using q)⟩
theorem VRL.take {Sh W ρ l vs} (h : VRL Sh W ρ l vs) (n : Nat) : VRL Sh W ρ (l.take n) (vs.take n) := by
  refine ⟨by simp [h.1], fun i x v p q => h.2 i x v ?_ ?_⟩
  · rw [List.getElem?_take] at p; split at p <;> simp_all
  · rw [List.getElem?_take] at q; split at q <;> simp_all

section
variable (P : Program) (G : Nat → Option (List AV))

/-- The listed variables. -/
def GR (Sh : Nat → Prop) (W : World) : Prop := ∀ g cells, G g = some cells → VR Sh W (fun _ => none) (.ref true cells (.lit 0)) (.pointer (some ⟨g, 0, none⟩)) ∧ ∃ (cs : Array Value) (e : TypeId) (fr : Nat × Nat), W.heap[g]? = some (.cells cs e fr) ∧ cs.size = cells.length

/-- The own blocks. -/
structure HRel (W0 : World) (S0 : Nat → Prop) (Sh : Nat → Prop) (ρ : Rho) (H : Heap) (n : Nat) (W : World) : Prop where
  below : Below W0.heap.size W0 W
  blk : ∀ id l sh b, look H id = some (some ⟨l, sh⟩) → ρ id = some b → ∃ (cs : Array Value) (e : TypeId) (fr : Nat × Nat), W0.heap.size ≤ b ∧ W.heap[b]? = some (.cells cs e fr) ∧ l.v.length ≤ cs.size ∧
    (∀ (i : Nat) (x : AV) (v : Value), l.v[i]? = some x → cs[i]? = some v → VR Sh W ρ x v) ∧ (∀ (i : Nat) (v : Value), cs[i]? = some v → v.oneCell' = true) ∧ (sh = true → Sh b) ∧ (sh = false → ¬ Sh b ∧ ∀ o, o < cs.size → ¬ (fr.1 ≤ o ∧ o < fr.2))
  inj : ∀ id id' l x b, look H id = some (some ⟨l, false⟩) → look H id' = some (some x) → ρ id = some b → ρ id' = some b → id = id'
  fresh : ∀ id, n ≤ id → ρ id = none
  slt : ∀ b, Sh b → b < W.heap.size
  grow : ∀ b, Sh b → S0 b ∨ W0.heap.size ≤ b
  glob : GR G Sh W
  dom : ∀ id x, look H id = some x → id < n

def TR (Sh : Nat → Prop) (W : World) (ρ : Rho) (nt : Nat) (tm : List (Nat × AV)) (a : Array Value) : Prop :=
  a.size = nt ∧ ∀ t x, look tm t = some x → ∃ v, a[t]? = some v ∧ VR Sh W ρ x v

def exOf : Exit → Option Ex
  | .normal => some .normal
  | .exit i => some (.exit i)
  | .ret => some .ret
  | _ => none

/-- A later world; the blocks below 'B' keep their numbers. -/
structure ExtB (B : Nat) (Sh : Nat → Prop) (ρ : Rho) (W : World) (Sh' : Nat → Prop) (ρ' : Rho) (W' : World) : Prop where
  sh : ∀ b, Sh b → Sh' b
  rho : ∀ id b, id < B → ρ id = some b → ρ' id = some b
  keep : ∀ b, Sh b → W'.heap[b]? = W.heap[b]?
  shape : ∀ (b : Nat) (cs : Array Value) (e : TypeId) (fr : Nat × Nat), W.heap[b]? = some (.cells cs e fr) → ∃ (cs' : Array Value) (fr' : Nat × Nat), W'.heap[b]? = some (.cells cs' e fr') ∧ cs'.size = cs.size

theorem Ext.b {Sh ρ W Sh' ρ' W'} (h : Ext Sh ρ W Sh' ρ' W') (B : Nat) : ExtB B Sh ρ W Sh' ρ' W' := ⟨h.sh, fun id b _ q => h.rho id b q, h.keep, h.shape⟩
theorem ExtB.refl {B Sh ρ W} : ExtB B Sh ρ W Sh ρ W := Ext.refl.b B
theorem ExtB.trans {B A ρ W A' ρ' W' A'' ρ'' W''} (h : ExtB B A ρ W A' ρ' W') (k : ExtB B A' ρ' W' A'' ρ'' W'') : ExtB B A ρ W A'' ρ'' W'' :=
  ⟨fun b q => k.sh b (h.sh b q), fun id b p q => k.rho id b p (h.rho id b p q), fun b q => (k.keep b (h.sh b q)).trans (h.keep b q), fun b cs e fr q => by
    obtain ⟨cs', fr', q', s⟩ := h.shape b cs e fr q
    obtain ⟨cs'', fr'', q'', s'⟩ := k.shape b cs' e fr' q'
    exact ⟨cs'', fr'', q'', s'.trans s⟩⟩
theorem ExtB.all {B Sh ρ W Sh' ρ' W'} (h : ExtB B Sh ρ W Sh' ρ' W') (hf : ∀ id, B ≤ id → ρ id = none) : Ext Sh ρ W Sh' ρ' W' :=
  ⟨h.sh, fun id b q => h.rho id b (by
    rcases Nat.lt_or_ge id B with p | p
    · exact p
    · rw [hf id p] at q; cases q) q, h.keep, h.shape⟩

/-- What a piece of code does, from a state: whatever world it stands for, it comes to an end of which 'Q' holds. -/
structure SWp (B : Nat) (c : Code) (st : St) (Q : Ex → St → Prop) : Prop where
  out : ∀ W0 S0 Sh ρ a W, a.defers = [] → HRel G W0 S0 Sh ρ st.heap st.next W → TR Sh W ρ st.nt st.tmps a.tmps →
    c.wp P (fun e a' W' => ∃ ex st' Sh' ρ', exOf e = some ex ∧ Q ex st' ∧ ExtB B Sh ρ W Sh' ρ' W' ∧ HRel G W0 S0 Sh' ρ' st'.heap st'.next W' ∧ TR Sh' W' ρ' st'.nt st'.tmps a'.tmps ∧ a'.defers = []) a W

/-- The rounds of a loop, as many as there are. -/
def LoopsP (P : Program) (c : Code) (Q : Exit → Act → World → Prop) (a : Act) (W : World) : Prop :=
  ∀ R : Act → World → Prop, (∀ a W, c.wp P (Exit.then R Q) a W → R a W) → R a W

/-- What a loop does. -/
structure SLp (B : Nat) (c : Code) (st : St) (Q : Ex → St → Prop) : Prop where
  out : ∀ W0 S0 Sh ρ a W, a.defers = [] → HRel G W0 S0 Sh ρ st.heap st.next W → TR Sh W ρ st.nt st.tmps a.tmps →
    LoopsP P c (fun e a' W' => ∃ ex st' Sh' ρ', exOf e = some ex ∧ Q ex st' ∧ ExtB B Sh ρ W Sh' ρ' W' ∧ HRel G W0 S0 Sh' ρ' st'.heap st'.next W' ∧ TR Sh' W' ρ' st'.nt st'.tmps a'.tmps ∧ a'.defers = []) a W

/-- A call of a Go function, or of one that the model carries out itself. -/
def CallsX (f : Nat) (vs : Array Value) (W : World) (R : Ending → World → Prop) : Prop :=
  (∃ v W', (callFunc f vs).run P W = .ok (.value v) W' ∧ R (.returned v) W') ∨ ((callFunc f vs).run P W = .ok (.enter f vs) W ∧ Calls P f vs W R)

/-- What a call does, in the same memory. -/
structure CallA (f : Nat) (args : List AV) (H : Heap) (n : Nat) (Q : AV → Heap → Nat → Prop) : Prop where
  out : ∀ W0 S0 Sh ρ W vs, HRel G W0 S0 Sh ρ H n W → VRL Sh W ρ args vs →
    CallsX P f vs.toArray W fun e W' => ∃ x v H' n' Sh' ρ', e = .returned v ∧ Q x H' n' ∧ Ext Sh ρ W Sh' ρ' W' ∧ HRel G W0 S0 Sh' ρ' H' n' W' ∧ VR Sh' W' ρ' x v

/-- What a function returns: arguments and result by their values alone; whatever existed stays as it is. -/
structure FnA (f : Nat) (args : List AV) (res : AV) : Prop where
  out : ∀ Sh W vs, GR G Sh W → (∀ b, Sh b → b < W.heap.size) → VRL Sh W (fun _ => none) args vs →
    CallsX P f vs.toArray W fun e W' => ∃ v Sh', e = .returned v ∧ Below W.heap.size W W' ∧ (∀ b, Sh b → Sh' b) ∧ (∀ b, Sh' b → Sh b ∨ W.heap.size ≤ b) ∧ (∀ b, Sh' b → b < W'.heap.size) ∧ VR Sh' W' (fun _ => none) res v
end

theorem CallsX.mono {P : Program} {f : Nat} {vs : Array Value} {W : World} {R R' : Ending → World → Prop} (h : CallsX P f vs W R) (hr : ∀ e w', R e w' → R' e w') : CallsX P f vs W R' := by
  rcases h with ⟨v, W', h1, h2⟩ | ⟨h1, h2⟩
  · exact .inl ⟨v, W', h1, hr _ _ h2⟩
  · exact .inr ⟨h1, h2.mono hr⟩

/-- No own block is met. -/
inductive Closed : AV → Prop where
  | bool {b} : Closed (.bool b)
  | int {k n} : Closed (.int k n)
  | str {s} : Closed (.str s)
  | nil : Closed .nil
  | empty : Closed .empty
  | list {n b l} : Closed (.list n b l)
  | seq {n l} : Closed (.seq n l)
  | nilptr : Closed .nilptr
  | ref {b l o} : Closed (.ref b l o)
  | agg {b l} (h : ∀ x ∈ l, Closed x) : Closed (.agg b l)
  | tuple {l} (h : ∀ x ∈ l, Closed x) : Closed (.tuple l)
  | nilFunc : Closed .nilFunc
  | func {f a b} (h : ∀ x ∈ a, Closed x) (h' : ∀ x ∈ b, Closed x) : Closed (.func f a b)
  | nilIface : Closed .nilIface
  | iface {t v} (h : Closed v) : Closed (.iface t v)
/-- No memory is met. -/
inductive Flat : AV → Prop where
  | bool {b} : Flat (.bool b)
  | int {k n} : Flat (.int k n)
  | str {s} : Flat (.str s)
  | nil : Flat .nil
  | empty : Flat .empty
  | nilptr : Flat .nilptr
  | agg {b l} (h : ∀ x ∈ l, Flat x) : Flat (.agg b l)
  | tuple {l} (h : ∀ x ∈ l, Flat x) : Flat (.tuple l)
  | nilFunc : Flat .nilFunc
  | func {f a b} (h : ∀ x ∈ a, Flat x) (h' : ∀ x ∈ b, Flat x) : Flat (.func f a b)
  | nilIface : Flat .nilIface
  | iface {t v} (h : Flat v) : Flat (.iface t v)

theorem VR.closed {Sh W ρ x v} (h : VR Sh W ρ x v) (hq : Closed x) : VR Sh W (fun _ => none) x v := by
  induction h with
  | bool => exact .bool
  | int h => exact .int h
  | str h => exact .str h
  | nil => exact .nil
  | empty => exact .empty
  | list hm hn hsp hS hl hc hv h1 ih => exact .list hm hn hsp hS hl hc hv h1
  | seq hs h ih => exact .seq hs (ih (by cases hs <;> constructor))
  | own => cases hq
  | acc0 => cases hq
  | acc1 => cases hq
  | apt => cases hq
  | buf => cases hq
  | nilptr => exact .nilptr
  | ptr => cases hq
  | ref hsp hS ho hl hc hv h1 ih => exact .ref hsp hS ho hl hc hv h1
  | agg hl hv h1 ih => cases hq with | agg h => exact .agg hl (fun i x v p q => ih i x v p q (h x (List.mem_of_getElem? p))) h1
  | tuple hl hv ih => cases hq with | tuple h => exact .tuple hl fun i x v p q => ih i x v p q (h x (List.mem_of_getElem? p))
  | nilFunc => exact .nilFunc
  | func hl hv hl' hv' ih ih' => cases hq with | func h h' => exact .func hl (fun i x v p q => ih i x v p q (h x (List.mem_of_getElem? p))) hl' fun i x v p q => ih' i x v p q (h' x (List.mem_of_getElem? p))
  | nilIface => exact .nilIface
  | iface h ih => cases hq with | iface h => exact .iface (ih h)
theorem VR.flat {Sh W ρ x v} (h : VR Sh W ρ x v) (hc : Flat x) (Sh' : Nat → Prop) (W' : World) (ρ' : Rho) : VR Sh' W' ρ' x v := by
  induction h generalizing ρ' with
  | bool => exact .bool
  | int h => exact .int h
  | str h => exact .str h
  | nil => exact .nil
  | empty => exact .empty
  | list => cases hc
  | seq => cases hc
  | own => cases hc
  | acc0 => cases hc
  | acc1 => cases hc
  | apt => cases hc
  | buf => cases hc
  | nilptr => exact .nilptr
  | ptr => cases hc
  | ref => cases hc
  | agg hl hv h1 ih => cases hc with | agg h => exact .agg hl (fun i x v p q => ih i x v p q (h x (List.mem_of_getElem? p)) _) h1
  | tuple hl hv ih => cases hc with | tuple h => exact .tuple hl fun i x v p q => ih i x v p q (h x (List.mem_of_getElem? p)) _
  | nilFunc => exact .nilFunc
  | func hl hv hl' hv' ih ih' => cases hc with | func h h' => exact .func hl (fun i x v p q => ih i x v p q (h x (List.mem_of_getElem? p)) _) hl' fun i x v p q => ih' i x v p q (h' x (List.mem_of_getElem? p)) _
  | nilIface => exact .nilIface
  | iface h ih => cases hc with | iface h => exact .iface (ih h _)

/-- What a value is if the own blocks that it meets are read. -/
inductive Frz (H : Heap) : AV → AV → Prop where
  | closed {x} (h : Closed x) : Frz H x x
  | own {id off len cap sz l sh n b cells} (h : look H id = some (some ⟨l, sh⟩)) (hf : off.v + len.v * sz ≤ l.v.length) (hn : n.v = len.v) (hl : cells.length = len.v * sz)
      (hc : ∀ (i : Nat) (x y : AV), l.v[off.v + i]? = some x → cells[i]? = some y → Frz H x y) : Frz H (.own id off len cap sz) (.list n b cells)
  | acc {id len sz y n cells} (h : Frz H (.own id (.lit 0) len none sz) y) (hs : SeqOf y n cells) (hn : n.v = len.v) (hz : len.v = 0 → cells = []) : Frz H (.acc id len sz) (.seq n cells)
  | ptr {id off l sh b cells o} (h : look H id = some (some ⟨l, sh⟩)) (hl : cells.length = l.v.length) (ho : o.v = off.v)
      (hc : ∀ (i : Nat) (x y : AV), l.v[i]? = some x → cells[i]? = some y → Frz H x y) : Frz H (.ptr id off) (.ref b cells o)
  | agg {b l c m} (hl : m.length = l.length) (hv : ∀ (i : Nat) (x y : AV), l[i]? = some x → m[i]? = some y → Frz H x y) : Frz H (.agg b l) (.agg c m)
  | tuple {l m} (hl : m.length = l.length) (hv : ∀ (i : Nat) (x y : AV), l[i]? = some x → m[i]? = some y → Frz H x y) : Frz H (.tuple l) (.tuple m)
  | func {f a a' b b'} (hl : a'.length = a.length) (hv : ∀ (i : Nat) (x y : AV), a[i]? = some x → a'[i]? = some y → Frz H x y)
      (hl' : b'.length = b.length) (hv' : ∀ (i : Nat) (x y : AV), b[i]? = some x → b'[i]? = some y → Frz H x y) : Frz H (.func f a b) (.func f a' b')
  | iface {t x y} (h : Frz H x y) : Frz H (.iface t x) (.iface t y)
  | seq {x y n cells} (h : Frz H x y) (hs : SeqOf y n cells) : Frz H x (.seq n cells)
  | lit {k n m} (h : n.v = m.v) : Frz H (.int k n) (.int k m)
  | slit {n m} (h : n.v = m.v) : Frz H (.str n) (.str m)

def FrzL (H : Heap) (l m : List AV) : Prop := m.length = l.length ∧ ∀ (i : Nat) (x y : AV), l[i]? = some x → m[i]? = some y → Frz H x y

section
variable (P : Program) (G : Nat → Option (List AV))
/-- Whatever is the one is the other, too. -/
def VLe (x y : AV) : Prop := ∀ Sh W ρ v, VR Sh W ρ x v → VR Sh W ρ y v
theorem VLe.refl (x : AV) : VLe x x := fun _ _ _ _ h => h

/-- A call by the contract of its function. -/
structure FCall (f : Nat) (args : List AV) (H : Heap) (Q : AV → Prop) : Prop where
  out : ∃ fargs res, FrzL H args fargs ∧ FnA P G f fargs res ∧ (Flat res ∨ (∀ x ∈ args, Closed x)) ∧ Q res

def T.prop (B : Nat) (Q : Ex → St → Prop) (t : T) : Prop :=
  match t with
  | .fail => False
  | .done e st => Q e st
  | .int e k => ∃ r : I, r.v = e () ∧ (k r).prop B Q
  | .nat e k => ∃ r : N, r.v = e () ∧ (k r).prop B Q
  | .str e k => ∃ r : S, r.v = e () ∧ (k r).prop B Q
  | .bytes l k => ∃ r : S, bytesOf l = some r.v ∧ (k r).prop B Q
  | .cmp p k => (p () = true → (k true).prop B Q) ∧ (p () = false → (k false).prop B Q)
  | .req p k => p () = true ∧ (k ()).prop B Q
  | .idx _ l k => ∃ x y, l () = some x ∧ VLe x y ∧ (k y).prop B Q
  | .lst l k => ∃ x : L, x.v = l () ∧ (k x).prop B Q
  | .call f args h n k => CallA P G f args h n fun x h' n' => (k x h' n').prop B Q
  | .fcall f args h k => FCall P G f args h fun x => (k x).prop B Q
  | .loop c st k => SLp P G B c st fun e st' => (k e st').prop B Q
  | .cut c st k => SWp P G B c st fun e st' => (k e st').prop B Q
  | .join t d k => t.prop B fun e st => e = .normal ∧ ∃ b, look st.tmps d = some (.bool b) ∧ (k b).prop B Q
  | .evI n k => (k n).prop B Q
  | .evN n k => (k n).prop B Q
  | .evS n k => (k n).prop B Q
  | .evL n k => (k n).prop B Q
  | .evH n k => (k n).prop B Q
  | .evM n k => (k n).prop B Q
end
end Go.Ax
