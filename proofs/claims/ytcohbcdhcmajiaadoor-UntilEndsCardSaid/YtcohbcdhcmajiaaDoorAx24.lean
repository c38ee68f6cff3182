/-
  The small abstract machine: plain data, and values.
-/
import Derived.Test.YtcohbcdhcmajiaaDoorAx23
namespace Go.Ax
open Go.RowKit
set_option linter.unusedVariables false

/-- Whatever is the one is the other, if the own blocks have the numbers that 'm' tells. -/
def Mv (m : List (Nat × Nat)) (x y : AV) : Prop :=
  ∀ ρ ρ2 : Rho, (∀ c a, look m c = some a → ρ2 c = ρ a) → ∀ Sh W v, VR Sh W ρ x v → VR Sh W ρ2 y v

theorem Mv.of_closed {m x y} (hc : Closed x) (h : ∀ Sh W ρ v, VR Sh W ρ x v → VR Sh W ρ y v) : Mv m x y :=
  fun ρ ρ2 _ Sh W v hv => h Sh W ρ2 v ((hv.closed hc).of_none ρ2)
theorem Mv.closed {m x} (hc : Closed x) : Mv m x x := .of_closed hc fun _ _ _ _ h => h

theorem closedN_sound : ∀ {n : Nat} {x : AV}, closedN n x = true → Closed x
  | 0, x, h => by cases h
  | n + 1, x, h => by
    have ih := fun x => @closedN_sound n x
    cases x <;> simp only [closedN] at h
    case bool => exact .bool
    case int => exact .int
    case str => exact .str
    case nil => exact .nil
    case empty => exact .empty
    case list => exact .list
    case seq => exact .seq
    case nilptr => exact .nilptr
    case ref => exact .ref
    case nilFunc => exact .nilFunc
    case nilIface => exact .nilIface
    case agg b l => exact .agg fun x hx => ih x (List.all_eq_true.1 h x hx)
    case tuple l => exact .tuple fun x hx => ih x (List.all_eq_true.1 h x hx)
    case iface t v => exact .iface (ih v h)
    case func f a b =>
      simp only [Bool.and_eq_true] at h
      exact .func (fun x hx => ih x (List.all_eq_true.1 h.1 x hx)) fun x hx => ih x (List.all_eq_true.1 h.2 x hx)
    all_goals cases h
theorem closedN_all {n : Nat} {l : List AV} (h : l.all (closedN n) = true) : ∀ x ∈ l, Closed x := fun x hx => closedN_sound (List.all_eq_true.1 h x hx)

/-- Lists of the like. -/
def MvL (m : List (Nat × Nat)) (l k : List AV) : Prop := k.length = l.length ∧ ∀ (i : Nat) (x y : AV), l[i]? = some x → k[i]? = some y → Mv m x y
theorem MvL.nil {m} : MvL m [] [] := ⟨rfl, fun i x y p => by simp at p⟩
theorem MvL.cons {m x y l k} (h : Mv m x y) (hl : MvL m l k) : MvL m (x :: l) (y :: k) :=
  ⟨by simp [hl.1], fun i a b p q => by
    cases i with
    | zero => simp at p q; subst p; subst q; exact h
    | succ i => simp at p q; exact hl.2 i a b p q⟩
theorem MvL.closed {m l} (h : ∀ x ∈ l, Closed x) : MvL m l l :=
  ⟨rfl, fun i x y p q => by rw [p] at q; cases q; exact .closed (h x (List.mem_of_getElem? p))⟩

theorem gets_elims {m : List (Nat × Nat)} {g : Sh → AV → Option (List Dat)} {e : {β : Type} → Sh → List Dat → (AV → List Dat → O β) → O β}
    (h : ∀ s v0 ds0, g s v0 = some ds0 → ∃ v, (∀ rest β (K : AV → List Dat → O β), (e s (ds0 ++ rest) K).run = (K v rest).run) ∧ Mv m v0 v) :
    ∀ ss vs ds, getsWith g ss vs = some ds → ∃ ws, (∀ rest β (K : List AV → List Dat → O β), (elimsWith e ss (ds ++ rest) K).run = (K ws rest).run) ∧ MvL m vs ws
  | [], [], ds, hg => by cases hg; exact ⟨[], fun rest β K => rfl, .nil⟩
  | [], _ :: _, ds, hg => by cases hg
  | _ :: _, [], ds, hg => by cases hg
  | s :: ss, v :: vs, ds, hg => by
    unfold getsWith at hg
    split at hg
    · rename_i a b h1 h2
      cases hg
      obtain ⟨ws, k1, k2⟩ := gets_elims h ss vs b h2
      obtain ⟨w, k3, k4⟩ := h s v a h1
      refine ⟨w :: ws, fun rest β K => ?_, .cons k4 k2⟩
      rw [List.append_assoc, elimsWith, k3, k1]
    · cases hg

theorem VR.seq_of_list {Sh W ρ n b l v} (h : VR Sh W ρ (.list n b l) v) : VR Sh W ρ (.seq (.sym n.v) l) v := .seq (.list (m := n) rfl) h
theorem VR.list_sym {Sh W ρ n b l v} (h : VR Sh W ρ (.list n b l) v) : VR Sh W ρ (.list (.sym n.v) false l) v := by
  cases h with | list hm a b c d e f g => exact .list hm a b c d e f g
theorem VR.seq_of_seq {Sh W ρ n l v} (h : VR Sh W ρ (.seq n l) v) : VR Sh W ρ (.seq (.sym n.v) l) v := by
  cases h with
  | seq hs h =>
    cases hs with
    | nil hn => exact .seq (.nil hn) h
    | empty hn => exact .seq (.empty hn) h
    | list hn => exact .seq (.list hn) h

theorem MvL.vr {m l k} (h : MvL m l k) {Sh W ρ ρ2} (hr : ∀ c a, look m c = some a → ρ2 c = ρ a) {vs : Array Value} (hl : vs.size = l.length)
    (hv : ∀ (i : Nat) (x : AV) (v : Value), l[i]? = some x → vs[i]? = some v → VR Sh W ρ x v) : vs.size = k.length ∧ ∀ (i : Nat) (x : AV) (v : Value), k[i]? = some x → vs[i]? = some v → VR Sh W ρ2 x v := by
  refine ⟨hl.trans h.1.symm, fun i y v p q => ?_⟩
  have hi := (List.getElem?_eq_some_iff.1 p).1
  have hx : l[i]? = some (l[i]'(by have := h.1; omega)) := List.getElem?_eq_getElem _
  exact h.2 i _ y hx p ρ ρ2 hr Sh W v (hv i _ v hx q)

theorem get_elim {m : List (Nat × Nat)} : ∀ (n : Nat) (s : Sh) (v0 : AV) (ds0 : List Dat), Sh.get m n s v0 = some ds0 → ∃ v, (∀ rest β (K : AV → List Dat → O β), (Sh.elim n s (ds0 ++ rest) K).run = (K v rest).run) ∧ Mv m v0 v
  | 0, s, v0, ds0, h => by cases h
  | n + 1, s, v0, ds0, h => by
    have ihs := gets_elims (m := m) (g := Sh.get m n) (e := fun {β} => Sh.elim n) (get_elim n)
    have ih := get_elim (m := m) n
    unfold Sh.get at h
    split at h
    · split at h
      · rename_i e; subst e; cases h; exact ⟨_, fun rest β K => rfl, .of_closed .int fun _ _ _ _ h => by cases h with | int h => exact .int h⟩
      · cases h
    · cases h; exact ⟨_, fun rest β K => rfl, .closed .bool⟩
    · cases h; exact ⟨_, fun rest β K => rfl, .of_closed .str fun _ _ _ _ h => by cases h with | str h => exact .str h⟩
    · cases h; exact ⟨_, fun rest β K => rfl, .of_closed .nil fun _ _ _ _ h => .seq (.nil rfl) h⟩
    · cases h; exact ⟨_, fun rest β K => rfl, .of_closed .empty fun _ _ _ _ h => .seq (.empty rfl) h⟩
    · cases h; exact ⟨_, fun rest β K => rfl, .of_closed .list fun _ _ _ _ h => h.seq_of_list⟩
    · cases h; exact ⟨_, fun rest β K => rfl, .of_closed .seq fun _ _ _ _ h => h.seq_of_seq⟩
    · cases h; exact ⟨_, fun rest β K => rfl, .of_closed .list fun _ _ _ _ h => h.list_sym⟩
    · split at h
      · rename_i e; obtain ⟨rfl, rfl⟩ := e; cases h; exact ⟨_, fun rest β K => rfl, .closed .int⟩
      · cases h
    · cases h; exact ⟨_, fun rest β K => rfl, .closed .nil⟩
    · cases h; exact ⟨_, fun rest β K => rfl, .closed .empty⟩
    · cases h; exact ⟨_, fun rest β K => rfl, .closed .nilptr⟩
    · cases h; exact ⟨_, fun rest β K => rfl, .closed .nilFunc⟩
    · cases h; exact ⟨_, fun rest β K => rfl, .closed .nilIface⟩
    · split at h
      · rename_i e
        obtain ⟨e1, rfl⟩ := e
        cases h
        refine ⟨_, fun rest β K => rfl, fun ρ ρ2 hr Sh W v hv => ?_⟩
        cases hv with | own hm ho hr' hb hcap hlen hfit =>
        exact .own hm ho ((hr _ _ e1).trans hr') hb (fun _ e => by cases e) hlen hfit
      · cases h
    · cases h
      exact ⟨_, fun rest β K => rfl, .of_closed .nil fun _ _ _ _ h => by cases h; exact .acc0 rfl⟩
    · split at h
      · rename_i e
        obtain ⟨e1, rfl⟩ := e
        cases h
        refine ⟨_, fun rest β K => rfl, fun ρ ρ2 hr Sh W v hv => ?_⟩
        cases hv with | own hm ho hr' hb hcap hlen hfit =>
        exact .acc1 (.own hm ho ((hr _ _ e1).trans hr') hb (fun _ e => by cases e) hlen hfit)
      · cases h
    · split at h
      · rename_i e
        obtain ⟨e1, rfl⟩ := e
        cases h
        refine ⟨_, fun rest β K => rfl, fun ρ ρ2 hr Sh W v hv => ?_⟩
        rcases hv.acc_inv with ⟨rfl, h0⟩ | hv
        · exact .acc0 h0
        cases hv with | own hm ho hr' hb hcap hlen hfit =>
        exact .acc1 (.own hm ho ((hr _ _ e1).trans hr') hb (fun _ e => by cases e) hlen hfit)
      · cases h
    · split at h
      · rename_i e
        obtain ⟨e1, rfl, rfl, rfl, rfl⟩ := e
        cases h
        refine ⟨_, fun rest β K => rfl, fun ρ ρ2 hr Sh W v hv => ?_⟩
        cases hv with | own hm ho hr' hb hcap hlen hfit =>
        exact .own hm ho ((hr _ _ e1).trans hr') hb hcap hlen hfit
      · cases h
    · split at h
      · rename_i e
        obtain ⟨e1, rfl, rfl, rfl⟩ := e
        cases h
        refine ⟨_, fun rest β K => rfl, fun ρ ρ2 hr Sh W v hv => ?_⟩
        cases hv with | own hm ho hr' hb hcap hlen hfit =>
        exact .own hm ho ((hr _ _ e1).trans hr') hb hcap hlen hfit
      · cases h
    · split at h
      · rename_i e
        obtain ⟨e1, rfl, rfl⟩ := e
        cases h
        refine ⟨_, fun rest β K => rfl, fun ρ ρ2 hr Sh W v hv => ?_⟩
        cases hv with | own hm ho hr' hb hcap hlen hfit =>
        have hk := hcap _ rfl
        exact .own hm ho ((hr _ _ e1).trans hr') hb (fun k' e => by cases e; exact hk) hlen hfit
      · cases h
    · split at h
      · rename_i e
        obtain ⟨e1, rfl⟩ := e
        cases h
        refine ⟨_, fun rest β K => rfl, fun ρ ρ2 hr Sh W v hv => ?_⟩
        cases hv with | ptr hr' ho =>
        exact .ptr ((hr _ _ e1).trans hr') ho
      · cases h
    · obtain ⟨ws, k1, k2⟩ := ihs _ _ _ h
      refine ⟨.agg true ws, fun rest β K => k1 rest β _, fun ρ ρ2 hr Sh W v hv => ?_⟩
      cases hv with | agg hl hv h1 =>
      obtain ⟨q1, q2⟩ := k2.vr hr hl hv
      exact .agg q1 q2 h1
    · obtain ⟨ws, k1, k2⟩ := ihs _ _ _ h
      refine ⟨.tuple ws, fun rest β K => k1 rest β _, fun ρ ρ2 hr Sh W v hv => ?_⟩
      cases hv with | tuple hl hv =>
      obtain ⟨q1, q2⟩ := k2.vr hr hl hv
      exact .tuple q1 q2
    · split at h
      · rename_i e
        subst e
        split at h
        · rename_i f a b x y o1 o2 p q h1 h2
          cases h
          obtain ⟨us, k3, k4⟩ := ihs _ _ _ h2
          obtain ⟨ws, k1, k2⟩ := ihs _ _ _ h1
          refine ⟨.func f ws us, fun rest β K => ?_, fun ρ ρ2 hr Sh W v hv => ?_⟩
          · rw [List.append_assoc]
            exact (k1 _ β _).trans (k3 _ β _)
          · cases hv with | func hl hv hl' hv' =>
            obtain ⟨q1, q2⟩ := k2.vr hr hl hv
            obtain ⟨q3, q4⟩ := k4.vr hr hl' hv'
            exact .func q1 q2 q3 q4
        · cases h
      · cases h
    · split at h
      · rename_i e
        subst e
        obtain ⟨w, k1, k2⟩ := ih _ _ _ h
        refine ⟨.iface _ w, fun rest β K => k1 rest β _, fun ρ ρ2 hr Sh W v hv => ?_⟩
        cases hv with | iface hv => exact .iface (k2 ρ ρ2 hr Sh W _ hv)
      · cases h
    · split at h
      · rename_i e
        obtain ⟨e1, rfl⟩ := e
        cases h
        refine ⟨_, fun rest β K => rfl, fun ρ ρ2 hr Sh W v hv => ?_⟩
        cases hv with | apt hr' hb hz hv =>
        exact .apt ((hr _ _ e1).trans hr') hb hz hv
      · cases h
    · split at h
      · rename_i e
        obtain ⟨e1, rfl⟩ := e
        cases h
        refine ⟨_, fun rest β K => rfl, fun ρ ρ2 hr Sh W v hv => ?_⟩
        cases hv with | buf hv ht =>
        refine .buf ?_ ht
        rcases hv.acc_inv with ⟨rfl, h0⟩ | hv
        · exact .acc0 h0
        cases hv with | own hm ho hr' hb hcap hlen hfit =>
        exact .acc1 (.own hm ho ((hr _ _ e1).trans hr') hb (fun _ e => by cases e) hlen hfit)
      · cases h
    · cases h

theorem gets_elim {m : List (Nat × Nat)} {n : Nat} {ss : List Sh} {vs : List AV} {ds : List Dat} (h : getsWith (Sh.get m n) ss vs = some ds) :
    ∃ ws, (∀ rest β (K : List AV → List Dat → O β), (elimsWith (Sh.elim n) ss (ds ++ rest) K).run = (K ws rest).run) ∧ MvL m vs ws :=
  gets_elims (m := m) (g := Sh.get m n) (e := fun {β} => Sh.elim n) (get_elim n) ss vs ds h

/-- The value of some data is one. -/
theorem elim_one {m : List (Nat × Nat)} {n : Nat} {s : Sh} {v0 : AV} {ds : List Dat} (h : Sh.get m n s v0 = some ds) {x : AV} (hx : ∀ β (K : AV → List Dat → O β), (Sh.elim n s ds K).run = (K x []).run) : Mv m v0 x := by
  obtain ⟨v, k1, k2⟩ := get_elim n s v0 ds h
  have k1 := k1 []
  rw [List.append_nil] at k1
  have e := (k1 AV fun v _ => .ret v).symm.trans (hx AV fun v _ => .ret v)
  have : v = x := Option.some.inj e
  exact this ▸ k2

theorem elims_canon {e : {β : Type} → Sh → List Dat → (AV → List Dat → O β) → O β}
    (h : ∀ s ds, (∃ x rest, ∀ β (K : AV → List Dat → O β), (e s ds K).run = (K x rest).run) ∨ ∀ β (K : AV → List Dat → O β), (e s ds K).run = none) :
    ∀ ss ds, (∃ x rest, ∀ β (K : List AV → List Dat → O β), (elimsWith e ss ds K).run = (K x rest).run) ∨ ∀ β (K : List AV → List Dat → O β), (elimsWith e ss ds K).run = none
  | [], ds => .inl ⟨[], ds, fun β K => rfl⟩
  | s :: ss, ds => by
    rcases h s ds with ⟨x, rest, h1⟩ | h1
    · rcases elims_canon h ss rest with ⟨y, rest', h2⟩ | h2
      · exact .inl ⟨x :: y, rest', fun β K => by rw [elimsWith, h1, h2]⟩
      · exact .inr fun β K => by rw [elimsWith, h1, h2]
    · exact .inr fun β K => by rw [elimsWith, h1]

theorem elim_canon : ∀ (n : Nat) (s : Sh) (ds : List Dat), (∃ x rest, ∀ β (K : AV → List Dat → O β), (Sh.elim n s ds K).run = (K x rest).run) ∨ ∀ β (K : AV → List Dat → O β), (Sh.elim n s ds K).run = none
  | 0, s, ds => .inr fun β K => rfl
  | n + 1, s, ds => by
    have ihs := elims_canon (e := fun {β} => Sh.elim n) (elim_canon n)
    cases s with
    | int k =>
      match ds with
      | .i a :: ds => exact .inl ⟨_, _, fun β K => rfl⟩
      | [] | .b _ :: _ | .s _ :: _ | .n _ :: _ | .l _ :: _ => exact .inr fun β K => rfl
    | bool =>
      match ds with
      | .b a :: ds => exact .inl ⟨_, _, fun β K => rfl⟩
      | [] | .i _ :: _ | .s _ :: _ | .n _ :: _ | .l _ :: _ => exact .inr fun β K => rfl
    | str =>
      match ds with
      | .s a :: ds => exact .inl ⟨_, _, fun β K => rfl⟩
      | [] | .i _ :: _ | .b _ :: _ | .n _ :: _ | .l _ :: _ => exact .inr fun β K => rfl
    | seq =>
      match ds with
      | .n a :: .l b :: ds => exact .inl ⟨_, _, fun β K => rfl⟩
      | .n _ :: [] | .n _ :: .i _ :: _ | .n _ :: .b _ :: _ | .n _ :: .s _ :: _ | .n _ :: .n _ :: _ => exact .inr fun β K => rfl
      | [] | .i _ :: _ | .b _ :: _ | .s _ :: _ | .l _ :: _ => exact .inr fun β K => rfl
    | list =>
      match ds with
      | .n a :: .l b :: ds => exact .inl ⟨_, _, fun β K => rfl⟩
      | .n _ :: [] | .n _ :: .i _ :: _ | .n _ :: .b _ :: _ | .n _ :: .s _ :: _ | .n _ :: .n _ :: _ => exact .inr fun β K => rfl
      | [] | .i _ :: _ | .b _ :: _ | .s _ :: _ | .l _ :: _ => exact .inr fun β K => rfl
    | own c sz =>
      match ds with
      | .n a :: ds => exact .inl ⟨_, _, fun β K => rfl⟩
      | [] | .i _ :: _ | .b _ :: _ | .s _ :: _ | .l _ :: _ => exact .inr fun β K => rfl
    | ownL c o k sz =>
      match ds with
      | .n a :: ds => exact .inl ⟨_, _, fun β K => rfl⟩
      | [] | .i _ :: _ | .b _ :: _ | .s _ :: _ | .l _ :: _ => exact .inr fun β K => rfl
    | ownS c o sz =>
      match ds with
      | .n a :: .n b :: ds => exact .inl ⟨_, _, fun β K => rfl⟩
      | .n _ :: [] | .n _ :: .i _ :: _ | .n _ :: .b _ :: _ | .n _ :: .s _ :: _ | .n _ :: .l _ :: _ => exact .inr fun β K => rfl
      | [] | .i _ :: _ | .b _ :: _ | .s _ :: _ | .l _ :: _ => exact .inr fun β K => rfl
    | acc c sz =>
      match ds with
      | .n a :: ds => exact .inl ⟨_, _, fun β K => rfl⟩
      | [] | .i _ :: _ | .b _ :: _ | .s _ :: _ | .l _ :: _ => exact .inr fun β K => rfl
    | buf c ty =>
      match ds with
      | .n a :: ds => exact .inl ⟨_, _, fun β K => rfl⟩
      | [] | .i _ :: _ | .b _ :: _ | .s _ :: _ | .l _ :: _ => exact .inr fun β K => rfl
    | agg l =>
      rcases ihs l ds with ⟨x, rest, h⟩ | h
      · exact .inl ⟨.agg true x, rest, fun β K => h β _⟩
      · exact .inr fun β K => h β _
    | tuple l =>
      rcases ihs l ds with ⟨x, rest, h⟩ | h
      · exact .inl ⟨.tuple x, rest, fun β K => h β _⟩
      · exact .inr fun β K => h β _
    | func f a b =>
      rcases ihs a ds with ⟨x, rest, h⟩ | h
      · rcases ihs b rest with ⟨y, rest', h'⟩ | h'
        · exact .inl ⟨.func f x y, rest', fun β K => (h β _).trans (h' β _)⟩
        · exact .inr fun β K => (h β _).trans (h' β _)
      · exact .inr fun β K => h β _
    | iface t s =>
      rcases elim_canon n s ds with ⟨x, rest, h⟩ | h
      · exact .inl ⟨.iface t x, rest, fun β K => h β _⟩
      · exact .inr fun β K => h β _
    | _ => exact .inl ⟨_, _, fun β K => rfl⟩

/-! Freezing. -/
theorem frzsO_sound {β : Type} {H : Heap} {f : AV → (AV → O β) → O β} (hf : ∀ x K r, (f x K).run = some r → ∃ y, Frz H x y ∧ (K y).run = some r) :
    ∀ (l : List AV) (K : List AV → O β) (r : β), (frzsO f l K).run = some r → ∃ m, FrzL H l m ∧ (K m).run = some r
  | [], K, r, h => ⟨[], ⟨rfl, fun i x y p => by simp at p⟩, h⟩
  | x :: l, K, r, h => by
    obtain ⟨y, h1, h2⟩ := hf x _ r h
    obtain ⟨m, h3, h4⟩ := frzsO_sound hf l _ r h2
    exact ⟨y :: m, frzL_cons h1 h3, h4⟩

theorem run_ite {β : Type} {p : Bool} {a b : O β} {r : β} (h : (O.ite p a b).run = some r) : (p = true ∧ a.run = some r) ∨ (p = false ∧ b.run = some r) := by
  have h : cond p a.run b.run = some r := h
  cases p
  · exact .inr ⟨rfl, h⟩
  · exact .inl ⟨rfl, h⟩
theorem run_req {β : Type} {p : Bool} {a : O β} {r : β} (h : (O.ite p a .none).run = some r) : p = true ∧ a.run = some r := by
  rcases run_ite h with h | h
  · exact h
  · cases h.2
theorem run_bind {α β : Type} {m : Option α} {f : α → O β} {r : β} (h : (O.bind m f).run = some r) : ∃ x, m = some x ∧ (f x).run = some r := by
  have h : Option.bind m (fun x => (f x).run) = some r := h
  cases m with
  | none => cases h
  | some x => exact ⟨x, rfl, h⟩
theorem run_bindO {α β : Type} {m : O α} {f : α → O β} {r : β} (h : (O.bindO m f).run = some r) : ∃ x, m.run = some x ∧ (f x).run = some r := by
  have h : Option.bind m.run (fun x => (f x).run) = some r := h
  cases hm : m.run with
  | none => rw [hm] at h; cases h
  | some x => rw [hm] at h; exact ⟨x, rfl, h⟩
theorem run_mapR {β : Type} {m : O β} {r : List Dat ⊕ β} (h : (O.mapR m).run = some r) : ∃ x, m.run = some x ∧ r = .inr x := by
  have h : Option.map Sum.inr m.run = some r := h
  cases hm : m.run with
  | none => rw [hm] at h; cases h
  | some x => rw [hm] at h; cases h; exact ⟨x, rfl, rfl⟩

theorem frz_rows {H : Heap} {l cells : List AV} {off n : Nat} (hf : off + n ≤ l.length) (hc : FrzL H ((l.drop off).take n) cells) : cells.length = n ∧ ∀ (i : Nat) (x y : AV), l[off + i]? = some x → cells[i]? = some y → Frz H x y := by
  have hl : cells.length = n := by rw [hc.1, List.length_take, List.length_drop]; omega
  refine ⟨hl, fun i x y p q => hc.2 i x y ?_ q⟩
  have hi := (List.getElem?_eq_some_iff.1 q).1
  rw [List.getElem?_take, if_pos (by omega)]; simpa using p
theorem frz_closed {H : Heap} {l : List AV} (h : ∀ x ∈ l, Closed x) : FrzL H l l := ⟨rfl, fun i x y p q => by rw [p] at q; cases q; exact .closed (h x (List.mem_of_getElem? p))⟩
theorem frzO_sound {β : Type} {H : Heap} : ∀ (n : Nat) (x : AV) (K : AV → O β) (r : β), (frzO H n x K).run = some r → ∃ y, Frz H x y ∧ (K y).run = some r
  | 0, x, K, r, h => by cases h
  | n + 1, x, K, r, h => by
    have ih := frzO_sound (β := β) (H := H) n
    have cl : ∀ {x : AV}, (match closedN 20 x with | true => K x | false => O.none).run = some r → ∃ y, Frz H x y ∧ (K y).run = some r := by
      intro x h
      split at h
      · rename_i hc; exact ⟨x, .closed (closedN_sound hc), h⟩
      · cases h
    cases x with
    | own id off len cap sz =>
      simp only [frzO] at h
      split at h
      · rename_i l sh hl
        obtain ⟨h1, h⟩ := run_req h
        obtain ⟨h2, h⟩ := run_req h
        have h1 := of_decide_eq_true h1
        obtain ⟨q1, q2⟩ := frz_rows h1 (frz_closed (H := H) (closedN_all h2))
        exact ⟨_, .own hl h1 rfl q1 q2, h⟩
      · rename_i l sh hl
        obtain ⟨h1, h⟩ := run_req h
        have h1 := of_decide_eq_true h1
        obtain ⟨m, h2, h⟩ := frzsO_sound ih _ _ r h
        obtain ⟨q1, q2⟩ := frz_rows h1 h2
        exact ⟨_, .own hl h1 rfl q1 q2, h⟩
      · cases h
    | acc id len sz =>
      simp only [frzO] at h
      split at h
      · rename_i b l sh hl
        obtain ⟨h1, h⟩ := run_req h
        obtain ⟨h2, h⟩ := run_req h
        have h1 := of_decide_eq_true h1
        refine ⟨_, .acc (y := .list len false l) (.own hl (by show 0 + len.v * sz ≤ l.length; omega) rfl h1 fun i x y p q => ?_) (.list rfl) rfl (fun e => List.eq_nil_of_length_eq_zero (by rw [h1, e, Nat.zero_mul])), h⟩
        simp only [N.v, Nat.zero_add] at p
        rw [p] at q; cases q
        exact .closed (closedN_all h2 _ (List.mem_of_getElem? p))
      · cases h
    | ptr id off =>
      simp only [frzO] at h
      split at h
      · rename_i l sh hl
        obtain ⟨m, h2, h⟩ := frzsO_sound ih _ _ r h
        exact ⟨_, .ptr hl h2.1 rfl h2.2, h⟩
      · rename_i l sh hl
        obtain ⟨h1, h⟩ := run_req h
        have h2 := frz_closed (H := H) (closedN_all h1)
        exact ⟨_, .ptr hl h2.1 rfl h2.2, h⟩
      · cases h
    | agg b l =>
      obtain ⟨m, h2, h⟩ := frzsO_sound ih _ _ r h
      exact ⟨_, .agg h2.1 h2.2, h⟩
    | tuple l =>
      obtain ⟨m, h2, h⟩ := frzsO_sound ih _ _ r h
      exact ⟨_, .tuple h2.1 h2.2, h⟩
    | iface t v =>
      obtain ⟨y, h1, h⟩ := ih v _ r h
      exact ⟨_, .iface h1, h⟩
    | func f a b =>
      obtain ⟨m, h1, h⟩ := frzsO_sound ih _ _ r h
      obtain ⟨k, h2, h⟩ := frzsO_sound ih _ _ r h
      exact ⟨_, .func h1.1 h1.2 h2.1 h2.2, h⟩
    | _ => exact cl h
end Go.Ax
