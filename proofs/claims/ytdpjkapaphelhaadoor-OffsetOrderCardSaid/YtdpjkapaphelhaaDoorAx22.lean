/-
  The small abstract machine: what is written out, reckoned.
-/
import Derived.Test.YtdpjkapaphelhaaDoorAx17
namespace Go.Ax
open Go.RowKit
set_option linter.unusedVariables false

universe u
def forceN {α : Type u} (n : Nat) (K : Nat → α) : α := match n with
  | 0 => K 0
  | m + 1 => K (m + 1)
theorem forceN_eq {α : Type u} (n : Nat) (K : Nat → α) : forceN n K = K n := by cases n <;> rfl
def forceI {α : Type u} (n : Int) (K : Int → α) : α := match n with
  | .ofNat n => forceN n fun n => K (.ofNat n)
  | .negSucc n => forceN n fun n => K (.negSucc n)
theorem forceI_eq {α : Type u} (n : Int) (K : Int → α) : forceI n K = K n := by cases n <;> simp [forceI, forceN_eq]
def forceS {α : Type u} (l : List UInt8) (K : List UInt8 → α) : α := match l with
  | [] => K []
  | c :: l => forceN c.toNat fun c => forceS l fun l => K (UInt8.ofNat c :: l)
theorem forceS_eq {α : Type u} (l : List UInt8) (K : List UInt8 → α) : forceS l K = K l := by
  induction l generalizing K with
  | nil => rfl
  | cons c l ih => simp [forceS, forceN_eq, ih]
def forceL {α : Type u} {β : Type} (l : List β) (K : List β → α) : α := match l with
  | [] => K []
  | c :: l => forceL l fun l => K (c :: l)
theorem forceL_eq {α : Type u} {β : Type} (l : List β) (K : List β → α) : forceL l K = K l := by
  induction l generalizing K with
  | nil => rfl
  | cons c l ih => simp [forceL, ih]
def forceA {α : Type u} (x : AV) (K : AV → α) : α := match x with
  | .bool b => K (.bool b)
  | .int k n => K (.int k n)
  | .str s => K (.str s)
  | .nil => K .nil
  | .empty => K .empty
  | .list n b l => K (.list n b l)
  | .seq n l => K (.seq n l)
  | .own a b c d e => K (.own a b c d e)
  | .acc a b c => K (.acc a b c)
  | .nilptr => K .nilptr
  | .ptr a b => K (.ptr a b)
  | .ref a b c => K (.ref a b c)
  | .agg a b => K (.agg a b)
  | .tuple a => K (.tuple a)
  | .nilFunc => K .nilFunc
  | .func a b c => K (.func a b c)
  | .nilIface => K .nilIface
  | .iface a b => K (.iface a b)
theorem forceA_eq {α : Type u} (x : AV) (K : AV → α) : forceA x K = K x := by cases x <;> rfl
def forceM {α : Type u} (l : List (Nat × AV)) (K : List (Nat × AV) → α) : α := match l with
  | [] => K []
  | (t, v) :: l => forceA v fun v => forceM l fun l => K ((t, v) :: l)
theorem forceM_eq {α : Type u} (l : List (Nat × AV)) (K : List (Nat × AV) → α) : forceM l K = K l := by
  induction l generalizing K with
  | nil => rfl
  | cons c l ih => obtain ⟨t, v⟩ := c; simp [forceM, forceA_eq, ih]
def forceH {α : Type u} (l : Heap) (K : Heap → α) : α := match l with
  | [] => K []
  | (k, b) :: l => forceL l fun l => K ((k, b) :: l)
def forceP {α : Type u} (l : Heap) (K : Heap → α) : α := match l with
  | [] => K []
  | (k, none) :: l => forceN k fun k => forceP l fun l => K ((k, none) :: l)
  | (k, some ⟨⟨b, v⟩, s⟩) :: l => forceN k fun k => forceP l fun l => K ((k, some ⟨⟨b, v⟩, s⟩) :: l)
theorem forceP_eq {α : Type u} (l : Heap) (K : Heap → α) : forceP l K = K l := by
  induction l generalizing K with
  | nil => rfl
  | cons c l ih =>
    obtain ⟨k, b⟩ := c
    cases b with
    | none => simp [forceP, forceN_eq, ih]
    | some b => obtain ⟨⟨b, v⟩, s⟩ := b; simp [forceP, forceN_eq, ih]
def forceSt {α : Type u} (s : St) (K : St → α) : α := match s with
  | ⟨nt, tmps, h, n⟩ => forceN nt fun nt => forceM tmps fun tmps => forceP h fun h => forceN n fun n => K ⟨nt, tmps, h, n⟩
theorem forceSt_eq {α : Type u} (s : St) (K : St → α) : forceSt s K = K s := by obtain ⟨a, b, c, d⟩ := s; simp [forceSt, forceN_eq, forceM_eq, forceP_eq]
theorem forceH_eq {α : Type u} (l : Heap) (K : Heap → α) : forceH l K = K l := by
  cases l with
  | nil => rfl
  | cons c l => simp [forceH, forceL_eq]

def flatB : Nat → AV → Bool
  | 0, _ => false
  | n + 1, x => match x with
    | .bool _ | .int _ _ | .str _ | .nil | .empty | .nilptr | .nilFunc | .nilIface => true
    | .agg _ l | .tuple l => l.all (flatB n)
    | .iface _ v => flatB n v
    | .func _ a b => a.all (flatB n) && b.all (flatB n)
    | _ => false

abbrev FDesc := Code × Nat × List ResultVar

theorem flatB_sound : ∀ {n : Nat} {x : AV}, flatB n x = true → Flat x
  | 0, x, h => by cases h
  | n + 1, x, h => by
    have ih := fun x => @flatB_sound n x
    cases x <;> simp only [flatB] at h
    case bool => exact .bool
    case int => exact .int
    case str => exact .str
    case nil => exact .nil
    case empty => exact .empty
    case nilptr => exact .nilptr
    case nilFunc => exact .nilFunc
    case nilIface => exact .nilIface
    case agg b l => exact .agg fun x hx => ih x (List.all_eq_true.1 h x hx)
    case tuple l => exact .tuple fun x hx => ih x (List.all_eq_true.1 h x hx)
    case iface t v => exact .iface (ih v h)
    case func f a b =>
      simp only [Bool.and_eq_true] at h
      exact .func (fun x hx => ih x (List.all_eq_true.1 h.1 x hx)) fun x hx => ih x (List.all_eq_true.1 h.2 x hx)
    all_goals cases h

section
variable {P : Program} {G : Nat → Option (List AV)} {τ : Tys} {D : Nat → Option FDesc}

/-- The table of functions is the program's. -/
def DOk (P : Program) (G : Nat → Option (List AV)) (τ : Tys) (D : Nat → Option FDesc) : Prop :=
  ∀ f c nt res, D f = some (c, nt, res) → ∀ J args H n R, args.length ≤ nt → T.prop P G n (resQ R) (bodyT τ G J c nt res args H n) → CallA P G f args H n R

theorem dok_nil : ∀ p ∈ ([] : List (Nat × FDesc)), ∀ J args H n R, args.length ≤ p.2.2.1 → T.prop P G n (resQ R) (bodyT τ G J p.2.1 p.2.2.1 p.2.2.2 args H n) → CallA P G p.1 args H n R := fun p h => by cases h
theorem dok_cons {f : Nat} {d : FDesc} {l : List (Nat × FDesc)} (h : ∀ J args H n R, args.length ≤ d.2.1 → T.prop P G n (resQ R) (bodyT τ G J d.1 d.2.1 d.2.2 args H n) → CallA P G f args H n R)
    (hl : ∀ p ∈ l, ∀ J args H n R, args.length ≤ p.2.2.1 → T.prop P G n (resQ R) (bodyT τ G J p.2.1 p.2.2.1 p.2.2.2 args H n) → CallA P G p.1 args H n R) :
    ∀ p ∈ (f, d) :: l, ∀ J args H n R, args.length ≤ p.2.2.1 → T.prop P G n (resQ R) (bodyT τ G J p.2.1 p.2.2.1 p.2.2.2 args H n) → CallA P G p.1 args H n R := fun p hp => by
  cases hp with
  | head => exact fun J args H n R h1 h2 => h J args H n R h1 h2
  | tail _ hp => exact hl p hp
theorem dok {l : List (Nat × FDesc)} (h : ∀ p ∈ l, ∀ J args H n R, args.length ≤ p.2.2.1 → T.prop P G n (resQ R) (bodyT τ G J p.2.1 p.2.2.1 p.2.2.2 args H n) → CallA P G p.1 args H n R) : DOk P G τ (look l) :=
  fun f c nt res q => h _ (look_mem q)

end
end Go.Ax
