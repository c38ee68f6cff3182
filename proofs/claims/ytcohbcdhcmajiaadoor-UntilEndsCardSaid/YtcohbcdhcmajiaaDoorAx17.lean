/-
  The small abstract machine: facts for its use.
-/
import Derived.Test.YtcohbcdhcmajiaaDoorAx16
namespace Go.Ax
open Go.RowKit
set_option linter.unusedVariables false

theorem eql_t (a b : Int) : (cmpI .eql a b = true) = (a = b) := by simp [cmpI]
theorem eql_f (a b : Int) : (cmpI .eql a b = false) = (a ≠ b) := by simp [cmpI]
theorem neq_t (a b : Int) : (cmpI .neq a b = true) = (a ≠ b) := by simp [cmpI]
theorem neq_f (a b : Int) : (cmpI .neq a b = false) = (a = b) := by simp [cmpI]
theorem lss_t (a b : Int) : (cmpI .lss a b = true) = (a < b) := by simp [cmpI]
theorem lss_f (a b : Int) : (cmpI .lss a b = false) = (b ≤ a) := by simp [cmpI]
theorem leq_t (a b : Int) : (cmpI .leq a b = true) = (a ≤ b) := by simp [cmpI]
theorem leq_f (a b : Int) : (cmpI .leq a b = false) = (b < a) := by simp [cmpI]
theorem gtr_t (a b : Int) : (cmpI .gtr a b = true) = (b < a) := by simp [cmpI]
theorem gtr_f (a b : Int) : (cmpI .gtr a b = false) = (a ≤ b) := by simp [cmpI]
theorem geq_t (a b : Int) : (cmpI .geq a b = true) = (b ≤ a) := by simp [cmpI]
theorem geq_f (a b : Int) : (cmpI .geq a b = false) = (a < b) := by simp [cmpI]
theorem seql_t (a b : List UInt8) : (cmpS .eql a b = true) = (a = b) := by simp [cmpS]
theorem seql_f (a b : List UInt8) : (cmpS .eql a b = false) = (a ≠ b) := by simp [cmpS]
theorem sneq_t (a b : List UInt8) : (cmpS .neq a b = true) = (a ≠ b) := by simp [cmpS]
theorem sneq_f (a b : List UInt8) : (cmpS .neq a b = false) = (a = b) := by simp [cmpS]
theorem isym (n : Int) : (I.sym n).v = n := rfl
theorem ilit (n : Int) : (I.lit n).v = n := rfl
theorem nsym (n : Nat) : (N.sym n).v = n := rfl
theorem nlit (n : Nat) : (N.lit n).v = n := rfl
theorem ssym (n : List UInt8) : (S.sym n).v = n := rfl
theorem slit (n : List UInt8) : (S.lit n).v = n := rfl
theorem of_nat (n : Nat) : Int.ofNat n = (n : Int) := rfl
theorem dec_t {p : Prop} [Decidable p] : (decide p = true) = p := by simp
theorem dec_f {p : Prop} [Decidable p] : (decide p = false) = ¬ p := by simp

theorem ar_add (a b : Int) (h : -9223372036854775808 ≤ a + b ∧ a + b ≤ 9223372036854775807) : arith .add .i64 a b = a + b := IntWalk.i64_in _ h
theorem ar_sub (a b : Int) (h : -9223372036854775808 ≤ a - b ∧ a - b ≤ 9223372036854775807) : arith .sub .i64 a b = a - b := IntWalk.i64_in _ h
theorem ar_mul (a b : Int) (h : -9223372036854775808 ≤ a * b ∧ a * b ≤ 9223372036854775807) : arith .mul .i64 a b = a * b := IntWalk.i64_in _ h

theorem frz_bool {H : Heap} {a b : Bool} (h : a = b) : Frz H (.bool a) (.bool b) := by subst h; exact .closed .bool
theorem frz_int {H : Heap} {k : IntKind} {a b : I} (h : a.v = b.v) : Frz H (.int k a) (.int k b) := .lit h
theorem frz_str {H : Heap} {a b : S} (h : a.v = b.v) : Frz H (.str a) (.str b) := .slit h
theorem frz_nil {H : Heap} : Frz H .nil .nil := .closed .nil

theorem frzL_nil {H : Heap} : FrzL H [] [] := ⟨rfl, fun i x y p q => by simp at p⟩
theorem frzL_cons {H : Heap} {x y : AV} {l m : List AV} (h : Frz H x y) (k : FrzL H l m) : FrzL H (x :: l) (y :: m) :=
  ⟨by simp [k.1], fun i a b p q => by
    cases i with
    | zero => simp at p q; subst p; subst q; exact h
    | succ i => simp at p q; exact k.2 i a b p q⟩
theorem frz_tuple {H : Heap} {l m : List AV} (h : FrzL H l m) : Frz H (.tuple l) (.tuple m) := .tuple h.1 h.2
theorem frz_agg {H : Heap} {b c : Bool} {l m : List AV} (h : FrzL H l m) : Frz H (.agg b l) (.agg c m) := .agg h.1 h.2
/-- An own slice whose cells are closed. -/
theorem frz_own {H : Heap} {id : Nat} {off len : N} {cap : Option N} {sz : Nat} {l : L} {sh : Bool} {n : N} {b : Bool} {cells : List AV} (h : look H id = some (some ⟨l, sh⟩)) (hf : off.v + len.v * sz ≤ l.v.length) (hn : n.v = len.v)
    (hc : cells = (l.v.drop off.v).take (len.v * sz)) (hcl : ∀ x ∈ cells, Closed x) : Frz H (.own id off len cap sz) (.list n b cells) := by
  refine .own h hf hn (by rw [hc, List.length_take, List.length_drop]; omega) fun i x y p q => ?_
  have hq := q
  rw [hc, List.getElem?_take] at q
  split at q
  · have : l.v[off.v + i]? = some y := by simpa using q
    rw [this] at p; cases p
    exact .closed (hcl _ (List.mem_of_getElem? hq))
  · cases q

/-- Is no own block met? -/
def closedB : AV → Bool
  | .bool _ | .int _ _ | .str _ | .nil | .list _ _ _ | .nilptr | .ref _ _ _ | .nilFunc | .nilIface => true
  | .func _ [] [] => true
  | _ => false
theorem closedB_sound {x : AV} (h : closedB x = true) : Closed x := by
  cases x with
  | func f a b =>
    cases a <;> cases b <;> first | (simp [closedB] at h; done) | exact .func (fun x hx => by cases hx) (fun x hx => by cases hx)
  | bool => exact .bool
  | int => exact .int
  | str => exact .str
  | nil => exact .nil
  | list => exact .list
  | nilptr => exact .nilptr
  | ref => exact .ref
  | nilFunc => exact .nilFunc
  | nilIface => exact .nilIface
  | _ => simp [closedB] at h
theorem closed_all {l : List AV} (h : l.all closedB = true) : ∀ x ∈ l, Closed x := fun x hx => closedB_sound (List.all_eq_true.1 h x hx)
theorem closed_nil : ∀ x ∈ ([] : List AV), Closed x := fun x h => by cases h
theorem closed_cons {x : AV} {l : List AV} (h : Closed x) (hl : ∀ y ∈ l, Closed y) : ∀ y ∈ x :: l, Closed y := fun y hy => by
  cases hy with
  | head => exact h
  | tail _ hy => exact hl y hy
theorem flat_nil : ∀ x ∈ ([] : List AV), Flat x := fun x h => by cases h
theorem flat_cons {x : AV} {l : List AV} (h : Flat x) (hl : ∀ y ∈ l, Flat y) : ∀ y ∈ x :: l, Flat y := fun y hy => by
  cases hy with
  | head => exact h
  | tail _ hy => exact hl y hy

/-- The same arguments but for what is written out. -/
inductive Same : AV → AV → Prop where
  | refl {x} : Same x x
  | int {k a b} (h : a.v = b.v) : Same (.int k a) (.int k b)
  | str {a b} (h : a.v = b.v) : Same (.str a) (.str b)
  | list {n m b c l} (h : n.v = m.v) : Same (.list n b l) (.list m c l)
  | agg {b c l} : Same (.agg b l) (.agg c l)
theorem Same.vr {x y : AV} (h : Same x y) {Sh W ρ v} (hv : VR Sh W ρ x v) : VR Sh W ρ y v := by
  cases h with
  | refl => exact hv
  | int h => cases hv with | int e => exact .int (h.symm.trans e)
  | str h => cases hv with | str e => exact .str (e.trans h)
  | list h => cases hv with | list h1 h2 h3 h4 h5 h6 h7 h8 => exact .list (h.symm.trans h1) h2 h3 h4 h5 h6 h7 h8
  | agg => cases hv with | agg h1 h2 h3 => exact .agg h1 h2 h3
theorem Same.symm {x y : AV} (h : Same x y) : Same y x := by
  cases h with
  | refl => exact .refl
  | int h => exact .int h.symm
  | str h => exact .str h.symm
  | list h => exact .list h.symm
  | agg => exact .agg
def SameL (l m : List AV) : Prop := m.length = l.length ∧ ∀ (i : Nat) (x y : AV), l[i]? = some x → m[i]? = some y → Same x y
theorem SameL.vrl {l m : List AV} (h : SameL l m) {Sh W ρ vs} (hv : VRL Sh W ρ l vs) : VRL Sh W ρ m vs := by
  refine ⟨hv.1.trans h.1.symm, fun i y v p q => ?_⟩
  have hi := (List.getElem?_eq_some_iff.1 p).1
  have hx : l[i]? = some (l[i]'(by have := h.1; omega)) := List.getElem?_eq_getElem _
  exact (h.2 i _ y hx p).vr (hv.2 i _ v hx q)
theorem sameL_nil : SameL [] [] := ⟨rfl, fun i x y p q => by simp at p⟩
theorem sameL_cons {x y : AV} {l m : List AV} (h : Same x y) (k : SameL l m) : SameL (x :: l) (y :: m) :=
  ⟨by simp [k.1], fun i a b p q => by
    cases i with
    | zero => simp at p q; subst p; subst q; exact h
    | succ i => simp at p q; exact k.2 i a b p q⟩

section
variable {P : Program} {G : Nat → Option (List AV)}
theorem FnA.same {f : Nat} {args args' : List AV} {res res' : AV} (h : FnA P G f args res) (ha : SameL args' args) (hr : Same res res') : FnA P G f args' res' := by
  constructor
  intro Sh W vs h1 h2 h3
  refine (h.out Sh W vs h1 h2 (ha.vrl h3)).mono ?_
  rintro e W' ⟨v, Sh', q1, q2, q3, q4, q5, q6⟩
  exact ⟨v, Sh', q1, q2, q3, q4, q5, hr.vr q6⟩
theorem CallA.same {f : Nat} {args args' : List AV} {H : Heap} {n : Nat} {Q : AV → Heap → Nat → Prop} (h : CallA P G f args H n Q) (ha : SameL args' args) : CallA P G f args' H n Q := by
  constructor
  intro W0 S0 Sh ρ W vs h1 h2
  exact h.out W0 S0 Sh ρ W vs h1 (ha.vrl h2)
end
end Go.Ax
