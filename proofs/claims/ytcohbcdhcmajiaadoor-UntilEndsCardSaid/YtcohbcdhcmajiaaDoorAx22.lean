/-
  The small abstract machine: what is written out, reckoned.
-/
import Derived.Test.YtcohbcdhcmajiaaDoorAx17
namespace Go.Ax
open Go.RowKit
set_option linter.unusedVariables false

universe u
def forceN {α : Type u} (n : Nat) (K : Nat → α) : α := match n with
  | 0 => K 0
  | m + 1 => K (m + 1)
theorem forceN_eq {α : Type u} (n : Nat) (K : Nat → α) : forceN n K = K n := by cases n <;> rfl
def forceI {α : Type u} (n : Int) (K : Int → α) : α := match n with
  | .ofNat n => forceN n fun n => K (.ofNat n)
  | .negSucc n => forceN n fun n => K (.negSucc n)
theorem forceI_eq {α : Type u} (n : Int) (K : Int → α) : forceI n K = K n := by cases n <;> simp [forceI, forceN_eq]
def forceS {α : Type u} (l : List UInt8) (K : List UInt8 → α) : α := match l with
  | [] => K []
  | c :: l => forceN c.toNat fun c => forceS l fun l => K (UInt8.ofNat c :: l)
theorem forceS_eq {α : Type u} (l : List UInt8) (K : List UInt8 → α) : forceS l K = K l := by
  induction l generalizing K with
  | nil => rfl
  | cons c l ih => simp [forceS, forceN_eq, ih]
def forceL {α : Type u} {β : Type} (l : List β) (K : List β → α) : α := match l with
  | [] => K []
  | c :: l => forceL l fun l => K (c :: l)
theorem forceL_eq {α : Type u} {β : Type} (l : List β) (K : List β → α) : forceL l K = K l := by
  induction l generalizing K with
  | nil => rfl
  | cons c l ih => simp [forceL, ih]
def forceA {α : Type u} (x : AV) (K : AV → α) : α := match x with
  | .bool b => K (.bool b)
  | .int k n => K (.int k n)
  | .str s => K (.str s)
  | .nil => K .nil
  | .empty => K .empty
  | .list n b l => K (.list n b l)
  | .seq n l => K (.seq n l)
  | .own a b c d e => K (.own a b c d e)
  | .acc a b c => K (.acc a b c)
  | .nilptr => K .nilptr
  | .ptr a b => K (.ptr a b)
  | .ref a b c => K (.ref a b c)
  | .agg a b => K (.agg a b)
  | .tuple a => K (.tuple a)
  | .nilFunc => K .nilFunc
  | .func a b c => K (.func a b c)
  | .nilIface => K .nilIface
  | .iface a b => K (.iface a b)
  | .apt a b => K (.apt a b)
  | .buf a b c => K (.buf a b c)
theorem forceA_eq {α : Type u} (x : AV) (K : AV → α) : forceA x K = K x := by cases x <;> rfl
def forceM {α : Type u} (l : List (Nat × AV)) (K : List (Nat × AV) → α) : α := match l with
  | [] => K []
  | (t, v) :: l => forceA v fun v => forceM l fun l => K ((t, v) :: l)
theorem forceM_eq {α : Type u} (l : List (Nat × AV)) (K : List (Nat × AV) → α) : forceM l K = K l := by
  induction l generalizing K with
  | nil => rfl
  | cons c l ih => obtain ⟨t, v⟩ := c; simp [forceM, forceA_eq, ih]
def forceH {α : Type u} (l : Heap) (K : Heap → α) : α := match l with
  | [] => K []
  | (k, b) :: l => forceL l fun l => K ((k, b) :: l)
def forceP {α : Type u} (l : Heap) (K : Heap → α) : α := match l with
  | [] => K []
  | (k, none) :: l => forceN k fun k => forceP l fun l => K ((k, none) :: l)
  | (k, some ⟨⟨b, v⟩, s⟩) :: l => forceN k fun k => forceP l fun l => K ((k, some ⟨⟨b, v⟩, s⟩) :: l)
theorem forceP_eq {α : Type u} (l : Heap) (K : Heap → α) : forceP l K = K l := by
  induction l generalizing K with
  | nil => rfl
  | cons c l ih =>
    obtain ⟨k, b⟩ := c
    cases b with
    | none => simp [forceP, forceN_eq, ih]
    | some b => obtain ⟨⟨b, v⟩, s⟩ := b; simp [forceP, forceN_eq, ih]
def forceSt {α : Type u} (s : St) (K : St → α) : α := match s with
  | ⟨nt, tmps, h, n⟩ => forceN nt fun nt => forceM tmps fun tmps => forceP h fun h => forceN n fun n => K ⟨nt, tmps, h, n⟩
theorem forceSt_eq {α : Type u} (s : St) (K : St → α) : forceSt s K = K s := by obtain ⟨a, b, c, d⟩ := s; simp [forceSt, forceN_eq, forceM_eq, forceP_eq]
theorem forceH_eq {α : Type u} (l : Heap) (K : Heap → α) : forceH l K = K l := by
  cases l with
  | nil => rfl
  | cons c l => simp [forceH, forceL_eq]

def flatB : Nat → AV → Bool
  | 0, _ => false
  | n + 1, x => match x with
    | .bool _ | .int _ _ | .str _ | .nil | .empty | .nilptr | .nilFunc | .nilIface => true
    | .agg _ l | .tuple l => l.all (flatB n)
    | .iface _ v => flatB n v
    | .func _ a b => a.all (flatB n) && b.all (flatB n)
    | _ => false

abbrev FDesc := Code × Nat × List ResultVar

theorem flatB_sound : ∀ {n : Nat} {x : AV}, flatB n x = true → Flat x
  | 0, x, h => by cases h
  | n + 1, x, h => by
    have ih := fun x => @flatB_sound n x
    cases x <;> simp only [flatB] at h
    case bool => exact .bool
    case int => exact .int
    case str => exact .str
    case nil => exact .nil
    case empty => exact .empty
    case nilptr => exact .nilptr
    case nilFunc => exact .nilFunc
    case nilIface => exact .nilIface
    case agg b l => exact .agg fun x hx => ih x (List.all_eq_true.1 h x hx)
    case tuple l => exact .tuple fun x hx => ih x (List.all_eq_true.1 h x hx)
    case iface t v => exact .iface (ih v h)
    case func f a b =>
      simp only [Bool.and_eq_true] at h
      exact .func (fun x hx => ih x (List.all_eq_true.1 h.1 x hx)) fun x hx => ih x (List.all_eq_true.1 h.2 x hx)
    all_goals cases h

section
variable {P : Program} {G : Nat → Option (List AV)} {τ : Tys} {D : Nat → Option FDesc}

/-- The table of functions is the program's. -/
def DOk (P : Program) (G : Nat → Option (List AV)) (τ : Tys) (D : Nat → Option FDesc) : Prop :=
  ∀ f c nt res, D f = some (c, nt, res) → ∀ J args H n R, args.length ≤ nt → T.prop P G n (resQ R) (bodyT τ G J c nt res args H n) → CallA P G f args H n R

theorem dok_nil : ∀ p ∈ ([] : List (Nat × FDesc)), ∀ J args H n R, args.length ≤ p.2.2.1 → T.prop P G n (resQ R) (bodyT τ G J p.2.1 p.2.2.1 p.2.2.2 args H n) → CallA P G p.1 args H n R := fun p h => by cases h
theorem dok_cons {f : Nat} {d : FDesc} {l : List (Nat × FDesc)} (h : ∀ J args H n R, args.length ≤ d.2.1 → T.prop P G n (resQ R) (bodyT τ G J d.1 d.2.1 d.2.2 args H n) → CallA P G f args H n R)
    (hl : ∀ p ∈ l, ∀ J args H n R, args.length ≤ p.2.2.1 → T.prop P G n (resQ R) (bodyT τ G J p.2.1 p.2.2.1 p.2.2.2 args H n) → CallA P G p.1 args H n R) :
    ∀ p ∈ (f, d) :: l, ∀ J args H n R, args.length ≤ p.2.2.1 → T.prop P G n (resQ R) (bodyT τ G J p.2.1 p.2.2.1 p.2.2.2 args H n) → CallA P G p.1 args H n R := fun p hp => by
  cases hp with
  | head => exact fun J args H n R h1 h2 => h J args H n R h1 h2
  | tail _ hp => exact hl p hp
theorem dok {l : List (Nat × FDesc)} (h : ∀ p ∈ l, ∀ J args H n R, args.length ≤ p.2.2.1 → T.prop P G n (resQ R) (bodyT τ G J p.2.1 p.2.2.1 p.2.2.2 args H n) → CallA P G p.1 args H n R) : DOk P G τ (look l) :=
  fun f c nt res q => h _ (look_mem q)

end

/-! Calls that may hand back what they were given: the own blocks that were handed over are written no more. -/
/-- The own blocks that a value leads to. -/
def reachA (H : Heap) : Nat → AV → List Nat
  | 0, _ => []
  | n + 1, x => match x with
    | .own id _ _ _ _ => id :: (match look H id with | some (some ⟨⟨true, l⟩, _⟩) => l.flatMap (reachA H n) | _ => [])
    | .acc id _ _ => id :: (match look H id with | some (some ⟨⟨true, l⟩, _⟩) => l.flatMap (reachA H n) | _ => [])
    | .ptr id _ => id :: (match look H id with | some (some ⟨⟨true, l⟩, _⟩) => l.flatMap (reachA H n) | _ => [])
    | .agg _ l => l.flatMap (reachA H n)
    | .tuple l => l.flatMap (reachA H n)
    | .func _ a b => a.flatMap (reachA H n) ++ b.flatMap (reachA H n)
    | .iface _ v => reachA H n v
    | _ => []
def keepH (ids : List Nat) : Heap → Heap
  | [] => []
  | (k, b) :: l => match ids.any (Nat.beq k) with
    | true => (k, b) :: keepH ids l
    | false => keepH ids l
def shutB : Option Blk → Option Blk
  | some b => some ⟨b.cells, true⟩
  | none => none
def shutH (ids : List Nat) : Heap → Heap
  | [] => []
  | (k, b) :: l => match ids.any (Nat.beq k) with
    | true => (k, shutB b) :: shutH ids l
    | false => (k, b) :: shutH ids l
theorem look_keepH {ids : List Nat} {id : Nat} {x : Option Blk} : ∀ {H : Heap}, look (keepH ids H) id = some x → look H id = some x ∧ ids.any (Nat.beq id) = true
  | [], h => by cases h
  | (k, b) :: l, h => by
    unfold keepH at h
    split at h
    · rename_i hk
      unfold look at h ⊢
      split at h
      · rename_i e
        subst e
        rw [if_pos rfl]
        exact ⟨h, hk⟩
      · rename_i e
        rw [if_neg e]
        exact look_keepH h
    · rename_i hk
      obtain ⟨h1, h2⟩ := look_keepH h
      unfold look
      split
      · rename_i e
        subst e
        rw [h2] at hk; cases hk
      · exact ⟨h1, h2⟩
theorem look_keepH' {ids : List Nat} {id : Nat} {x : Option Blk} (hi : ids.any (Nat.beq id) = true) : ∀ {H : Heap}, look H id = some x → look (keepH ids H) id = some x
  | [], h => by cases h
  | (k, b) :: l, h => by
    unfold look at h
    unfold keepH
    split at h
    · rename_i e
      subst e
      rw [hi]
      unfold look
      rw [if_pos rfl]; exact h
    · rename_i e
      split
      · unfold look
        rw [if_neg e]; exact look_keepH' hi h
      · exact look_keepH' hi h
theorem look_shutH {ids : List Nat} {id : Nat} {x : Option Blk} : ∀ {H : Heap}, look (shutH ids H) id = some x → ∃ y, look H id = some y ∧ x = if ids.any (Nat.beq id) = true then shutB y else y
  | [], h => by cases h
  | (k, b) :: l, h => by
    unfold shutH at h
    split at h
    · rename_i hk
      unfold look at h ⊢
      split at h
      · rename_i e
        subst e
        cases h
        rw [if_pos rfl, hk]
        exact ⟨_, rfl, rfl⟩
      · rename_i e
        rw [if_neg e]
        exact look_shutH h
    · rename_i hk
      unfold look at h ⊢
      split at h
      · rename_i e
        subst e
        cases h
        rw [if_pos rfl, hk]
        exact ⟨_, rfl, rfl⟩
      · rename_i e
        rw [if_neg e]
        exact look_shutH h
section
variable {P : Program} {G : Nat → Option (List AV)}
theorem HRel.keepH {W0 S0 Sh ρ H n W} (h : HRel G W0 S0 Sh ρ H n W) (ids : List Nat) : HRel G W0 S0 Sh ρ (keepH ids H) n W :=
  ⟨h.below, fun id l sh b hk hr => h.blk id l sh b (look_keepH hk).1 hr, fun id id' l x b h1 h2 h3 h4 => h.inj id id' l x b (look_keepH h1).1 (look_keepH h2).1 h3 h4, h.fresh, h.slt, h.grow, h.glob, fun id x hk => h.dom id x (look_keepH hk).1⟩
theorem CallA.of_fn_shut {f : Nat} {args fargs : List AV} {res : AV} {H : Heap} {n : Nat} {Q : AV → Heap → Nat → Prop} {ids : List Nat} (hf : FrzL (keepH ids H) args fargs) (h : FnA P G f fargs res)
    (q : Q res (shutH ids H) n) : CallA P G f args H n Q := by
  constructor
  intro W0 S0 Sh ρ W vs hH hv
  have hH1 := hH.keepH ids
  refine (h.out (live Sh ρ (keepH ids H)) W vs (hH.glob.mono (fun _ h => .inl h) (fun _ _ => rfl)) (fun b q => hH1.live_lt q) (hf.read hH1 hv)).mono ?_
  rintro e W' ⟨v, Sh', rfl, hb, h1, h2, h3, h4⟩
  have e : Ext Sh ρ W Sh' ρ W' := ⟨fun b q => h1 b (.inl q), fun _ _ h => h, fun b q => hb.block b (hH.slt b q), fun b cs e fr q => ⟨cs, fr, by rw [hb.block b (Array.getElem?_eq_some_iff.1 q).1]; exact q, rfl⟩⟩
  refine ⟨res, v, shutH ids H, n, Sh', ρ, rfl, q, e, ⟨hH.below.trans (hb.mono hH.below.size), ?_, ?_, hH.fresh, h3, ?_, hH.glob.mono e.sh e.keep, ?_⟩, h4.of_none ρ⟩
  · intro id l sh b hk hr
    obtain ⟨y, hy, hx⟩ := look_shutH hk
    obtain ⟨sh0, hy, hsh⟩ : ∃ sh0, look H id = some (some ⟨l, sh0⟩) ∧ sh = if ids.any (Nat.beq id) = true then true else sh0 := by
      split at hx
      · rename_i hi
        cases y with
        | none => cases hx
        | some b0 =>
          cases hx
          exact ⟨b0.shut, hy, by rw [if_pos hi]⟩
      · rename_i hi
        subst hx; exact ⟨sh, hy, by rw [if_neg hi]⟩
    obtain ⟨cs, e', fr, k1, k2, k3, k4, k5, k6, k7⟩ := hH.blk id l sh0 b hy hr
    have hlt := (Array.getElem?_eq_some_iff.1 k2).1
    refine ⟨cs, e', fr, k1, by rw [hb.block b hlt]; exact k2, k3, fun i x v p q => (k4 i x v p q).ext e, k5, fun q => ?_, fun q => ?_⟩
    · subst hsh
      split at q
      · rename_i hi
        exact h1 b (.inr ⟨id, _, look_keepH' hi hy, hr⟩)
      · exact e.sh b (k6 q)
    · subst hsh
      split at q
      · cases q
      · rename_i hi
        refine ⟨fun q' => ?_, (k7 q).2⟩
        rcases h2 b q' with (q' | ⟨id', x', hl', hr'⟩) | q'
        · exact (k7 q).1 q'
        · obtain ⟨m1, m2⟩ := look_keepH hl'
          subst q
          have := hH.inj id id' l x' b hy m1 hr hr'
          subst this
          exact hi m2
        · omega
  · intro id id' l x b p1 p2 p3 p4
    obtain ⟨y, hy, hx⟩ := look_shutH p1
    obtain ⟨y', hy', hx'⟩ := look_shutH p2
    have hy1 : look H id = some (some ⟨l, false⟩) := by
      split at hx
      · cases y with
        | none => cases hx
        | some b0 => cases hx
      · subst hx; exact hy
    have hy2 : ∃ x', look H id' = some (some x') := by
      split at hx'
      · cases y' with
        | none => cases hx'
        | some b0 => exact ⟨b0, hy'⟩
      · subst hx'; exact ⟨x, hy'⟩
    obtain ⟨x', hy2⟩ := hy2
    exact hH.inj id id' l x' b hy1 hy2 p3 p4
  · intro b q
    rcases h2 b q with (q | ⟨id', ⟨l', s'⟩, hl', hr'⟩) | q
    · exact hH.grow b q
    · obtain ⟨_, _, _, m, _⟩ := hH1.blk id' l' s' b hl' hr'
      exact .inr m
    · exact .inr (Nat.le_trans hH.below.size q)
  · intro id x hk
    obtain ⟨y, hy, _⟩ := look_shutH hk
    exact hH.dom id y hy
end
end Go.Ax
