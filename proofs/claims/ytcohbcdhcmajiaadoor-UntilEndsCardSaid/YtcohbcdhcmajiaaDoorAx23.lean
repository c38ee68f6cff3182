/-
  The small abstract machine: what a piece of code says, as a function of plain data. The definitions.
-/
import Derived.Test.YtcohbcdhcmajiaaDoorAx22
namespace Go.Ax
open Go.RowKit
set_option linter.unusedVariables false

/-- Plain data. -/
inductive Dat where
  | i (n : Int)
  | b (b : Bool)
  | s (s : List UInt8)
  | n (n : Nat)
  | l (l : List AV)

/-! Loops, as limits. -/
def iterN {σ β : Type} (step : σ → Option (σ ⊕ β)) : Nat → σ → Option β
  | 0, _ => none
  | n + 1, x => match step x with
    | some (.inl y) => iterN step n y
    | some (.inr r) => some r
    | none => none
theorem iterN_mono {σ β : Type} {step : σ → Option (σ ⊕ β)} : ∀ {n : Nat} {x : σ} {r : β}, iterN step n x = some r → ∀ m, n ≤ m → iterN step m x = some r
  | 0, x, r, h, m, hm => by cases h
  | n + 1, x, r, h, m, hm => by
    obtain ⟨m, rfl⟩ : ∃ m', m = m' + 1 := ⟨m - 1, by omega⟩
    rw [iterN] at h ⊢
    split at h
    · exact iterN_mono h m (by omega)
    · exact h
    · cases h
theorem iterN_one {σ β : Type} {step : σ → Option (σ ⊕ β)} {n m : Nat} {x : σ} {r s : β} (h : iterN step n x = some r) (k : iterN step m x = some s) : r = s := by
  rcases Nat.le_total n m with q | q
  · have := iterN_mono h m q; rw [k] at this; cases this; rfl
  · have := iterN_mono k n q; rw [h] at this; cases this; rfl
open Classical in
/-- The limit; a loop of few rounds is reckoned. -/
noncomputable def iter {σ β : Type} (step : σ → Option (σ ⊕ β)) (x : σ) : Option β :=
  match iterN step 1000 x with
  | some r => some r
  | none => if h : ∃ r n, iterN step n x = some r then some (Classical.choose h) else none
theorem iter_some {σ β : Type} {step : σ → Option (σ ⊕ β)} {x : σ} {r : β} : iter step x = some r ↔ ∃ n, iterN step n x = some r := by
  unfold iter
  split
  · rename_i s hs
    constructor
    · intro h; cases h; exact ⟨_, hs⟩
    · rintro ⟨n, h⟩; rw [iterN_one hs h]
  · constructor
    · intro h
      split at h
      · rename_i q
        cases h
        exact Classical.choose_spec q
      · cases h
    · rintro ⟨n, h⟩
      have q : ∃ r n, iterN step n x = some r := ⟨r, n, h⟩
      rw [dif_pos q]
      obtain ⟨m, hm⟩ := Classical.choose_spec q
      rw [iterN_one hm h]
theorem iter_next {σ β : Type} {step : σ → Option (σ ⊕ β)} {x y : σ} (h : step x = some (.inl y)) : iter step x = iter step y := by
  have key : ∀ r, iter step x = some r ↔ iter step y = some r := by
    intro r
    rw [iter_some, iter_some]
    constructor
    · rintro ⟨n, q⟩
      cases n with
      | zero => cases q
      | succ n => rw [iterN, h] at q; exact ⟨n, q⟩
    · rintro ⟨n, q⟩; exact ⟨n + 1, by rw [iterN, h]; exact q⟩
  cases hx : iter step x with
  | some r => exact ((key r).1 hx).symm
  | none =>
    cases hy : iter step y with
    | some r => have := (key r).2 hy; rw [hx] at this; cases this
    | none => rfl
theorem iter_end {σ β : Type} {step : σ → Option (σ ⊕ β)} {x : σ} {r : β} (h : step x = some (.inr r)) : iter step x = some r :=
  iter_some.2 ⟨1, by rw [iterN, h]⟩
theorem iter_none {σ β : Type} {step : σ → Option (σ ⊕ β)} {x : σ} (h : step x = none) : iter step x = none := by
  cases hx : iter step x with
  | none => rfl
  | some r =>
    obtain ⟨n, q⟩ := iter_some.1 hx
    cases n with
    | zero => cases q
    | succ n => rw [iterN, h] at q; cases q

/-! Data, one by one. -/
def onI {β : Type} (ds : List Dat) (f : Int → List Dat → Option β) : Option β := match ds with | .i a :: ds => f a ds | _ => none
def onB {β : Type} (ds : List Dat) (f : Bool → List Dat → Option β) : Option β := match ds with | .b a :: ds => f a ds | _ => none
def onS {β : Type} (ds : List Dat) (f : List UInt8 → List Dat → Option β) : Option β := match ds with | .s a :: ds => f a ds | _ => none
def onN {β : Type} (ds : List Dat) (f : Nat → List Dat → Option β) : Option β := match ds with | .n a :: ds => f a ds | _ => none
def onL {β : Type} (ds : List Dat) (f : List AV → List Dat → Option β) : Option β := match ds with | .l a :: ds => f a ds | _ => none

def onR {β : Type} (x : List Dat ⊕ β) (f : List Dat → Option β) : Option β := match x with | .inl ds => f ds | .inr y => some y

/-- What is done, written out. -/
inductive O : Type → Type 1 where
  | none {β : Type} : O β
  | ret {β : Type} (y : β) : O β
  | ite {β : Type} (p : Bool) (a b : O β) : O β
  | bind {α β : Type} (m : Option α) (f : α → O β) : O β
  | bindO {α β : Type} (m : O α) (f : α → O β) : O β
  | loop {β : Type} (step : List Dat → O (List Dat ⊕ β)) (x : List Dat) : O β
  | mapR {β : Type} (m : O β) : O (List Dat ⊕ β)
  | onR {β : Type} (x : List Dat ⊕ β) (f : List Dat → O β) : O β
  | onI {β : Type} (ds : List Dat) (f : Int → List Dat → O β) : O β
  | onB {β : Type} (ds : List Dat) (f : Bool → List Dat → O β) : O β
  | onS {β : Type} (ds : List Dat) (f : List UInt8 → List Dat → O β) : O β
  | onN {β : Type} (ds : List Dat) (f : Nat → List Dat → O β) : O β
  | onL {β : Type} (ds : List Dat) (f : List AV → List Dat → O β) : O β

noncomputable def O.run {β : Type} (o : O β) : Option β :=
  O.rec (motive := fun β _ => Option β) Option.none (fun y => some y) (fun p _ _ a b => cond p a b) (fun m _ f => Option.bind m f) (fun _ _ m f => Option.bind m f)
    (fun _ x step => iter step x) (fun _ m => Option.map Sum.inr m) (fun x _ f => Ax.onR x f) (fun ds _ f => Ax.onI ds f) (fun ds _ f => Ax.onB ds f) (fun ds _ f => Ax.onS ds f) (fun ds _ f => Ax.onN ds f) (fun ds _ f => Ax.onL ds f) o

/-! Shapes. -/
inductive Sh where
  | int (k : IntKind)
  | bool
  | str
  | seq
  | list
  | ilit (k : IntKind) (n : Int)
  | nil
  | empty
  | nilptr
  | nilFunc
  | nilIface
  | own (id sz : Nat)
  | acc (id sz : Nat)
  | ownC (id off len cap sz : Nat)      -- all of it known
  | ownL (id off cap sz : Nat)          -- but the length
  | ownS (id off sz : Nat)              -- but the length and the capacity
  | ptr (id off : Nat)
  | agg (l : List Sh)
  | tuple (l : List Sh)
  | func (f : Nat) (a b : List Sh)
  | iface (t : Nat) (s : Sh)
  | apt (id ty : Nat)
  | buf (id ty : Nat)
  deriving Inhabited

def getsWith (f : Sh → AV → Option (List Dat)) : List Sh → List AV → Option (List Dat)
  | [], [] => some []
  | s :: ss, v :: vs => match f s v, getsWith f ss vs with
    | some a, some b => some (a ++ b)
    | _, _ => none
  | _, _ => none
/-- The data of a value that has a shape; 'm' tells the own blocks' numbers. -/
def Sh.get (m : List (Nat × Nat)) : Nat → Sh → AV → Option (List Dat)
  | 0, _, _ => none
  | n + 1, s, v => match s, v with
    | .int k, .int k' i => if k = k' then some [.i i.v] else none
    | .bool, .bool b => some [.b b]
    | .str, .str s => some [.s s.v]
    | .seq, .nil => some [.n 0, .l []]
    | .seq, .empty => some [.n 0, .l []]
    | .seq, .list n _ c => some [.n n.v, .l c]
    | .seq, .seq n c => some [.n n.v, .l c]
    | .list, .list n _ c => some [.n n.v, .l c]
    | .ilit k x, .int k' (.lit y) => if k = k' ∧ x = y then some [] else none
    | .nil, .nil => some []
    | .empty, .empty => some []
    | .nilptr, .nilptr => some []
    | .nilFunc, .nilFunc => some []
    | .nilIface, .nilIface => some []
    | .own c sz, .own a (.lit 0) len none sz' => if look m c = some a ∧ sz = sz' then some [.n len.v] else none
    | .acc c sz, .nil => some [.n 0]
    | .acc c sz, .own a (.lit 0) len none sz' => if look m c = some a ∧ sz = sz' then some [.n len.v] else none
    | .acc c sz, .acc a len sz' => if look m c = some a ∧ sz = sz' then some [.n len.v] else none
    | .ownC c o l k sz, .own a (.lit o') (.lit l') (some (.lit k')) sz' => if look m c = some a ∧ o = o' ∧ l = l' ∧ k = k' ∧ sz = sz' then some [] else none
    | .ownL c o k sz, .own a (.lit o') len (some (.lit k')) sz' => if look m c = some a ∧ o = o' ∧ k = k' ∧ sz = sz' then some [.n len.v] else none
    | .ownS c o sz, .own a (.lit o') len (some k) sz' => if look m c = some a ∧ o = o' ∧ sz = sz' then some [.n len.v, .n k.v] else none
    | .ptr c o, .ptr a (.lit o') => if look m c = some a ∧ o = o' then some [] else none
    | .agg l, .agg _ c => getsWith (Sh.get m n) l c
    | .tuple l, .tuple c => getsWith (Sh.get m n) l c
    | .func f a b, .func f' x y => if f = f' then match getsWith (Sh.get m n) a x, getsWith (Sh.get m n) b y with
      | some p, some q => some (p ++ q)
      | _, _ => none
      else none
    | .iface t s, .iface t' v => if t = t' then Sh.get m n s v else none
    | .apt c ty, .apt a ty' => if look m c = some a ∧ ty = ty' then some [] else none
    | .buf c ty, .buf a len ty' => if look m c = some a ∧ ty = ty' then some [.n len.v] else none
    | _, _ => none

def elimsWith {β : Type} (f : Sh → List Dat → (AV → List Dat → O β) → O β) : List Sh → List Dat → (List AV → List Dat → O β) → O β
  | [], ds, K => K [] ds
  | s :: ss, ds, K => f s ds fun v ds => elimsWith f ss ds fun vs ds => K (v :: vs) ds
/-- A value, out of its data. -/
def Sh.elim {β : Type} : Nat → Sh → List Dat → (AV → List Dat → O β) → O β
  | 0, _, _, _ => .none
  | n + 1, s, ds, K => match s with
    | .int k => .onI ds fun i ds => K (.int k (.sym i)) ds
    | .bool => .onB ds fun b ds => K (.bool b) ds
    | .str => .onS ds fun s ds => K (.str (.sym s)) ds
    | .seq => .onN ds fun n ds => .onL ds fun l ds => K (.seq (.sym n) l) ds
    | .list => .onN ds fun n ds => .onL ds fun l ds => K (.list (.sym n) false l) ds
    | .ilit k x => K (.int k (.lit x)) ds
    | .nil => K .nil ds
    | .empty => K .empty ds
    | .nilptr => K .nilptr ds
    | .nilFunc => K .nilFunc ds
    | .nilIface => K .nilIface ds
    | .own c sz => .onN ds fun n ds => K (.own c (.lit 0) (.sym n) none sz) ds
    | .acc c sz => .onN ds fun n ds => K (.acc c (.sym n) sz) ds
    | .ownC c o l k sz => K (.own c (.lit o) (.lit l) (some (.lit k)) sz) ds
    | .ownL c o k sz => .onN ds fun n ds => K (.own c (.lit o) (.sym n) (some (.lit k)) sz) ds
    | .ownS c o sz => .onN ds fun n ds => .onN ds fun k ds => K (.own c (.lit o) (.sym n) (some (.sym k)) sz) ds
    | .ptr c o => K (.ptr c (.lit o)) ds
    | .agg l => elimsWith (Sh.elim n) l ds fun vs ds => K (.agg true vs) ds
    | .tuple l => elimsWith (Sh.elim n) l ds fun vs ds => K (.tuple vs) ds
    | .func f a b => elimsWith (Sh.elim n) a ds fun vs ds => elimsWith (Sh.elim n) b ds fun ws ds => K (.func f vs ws) ds
    | .iface t s => Sh.elim n s ds fun v ds => K (.iface t v) ds
    | .apt c ty => K (.apt c ty) ds
    | .buf c ty => .onN ds fun n ds => K (.buf c (.sym n) ty) ds

def idsWith (f : Sh → AV → List (Nat × Nat)) : List Sh → List AV → List (Nat × Nat)
  | s :: ss, v :: vs => f s v ++ idsWith f ss vs
  | _, _ => []
/-- Which own blocks a value meets where its shape says so. -/
def Sh.ids : Nat → Sh → AV → List (Nat × Nat)
  | 0, _, _ => []
  | n + 1, s, v => match s, v with
    | .own c _, .own a _ _ _ _ => [(c, a)]
    | .ownC c _ _ _ _, .own a _ _ _ _ => [(c, a)]
    | .ownL c _ _ _, .own a _ _ _ _ => [(c, a)]
    | .ownS c _ _, .own a _ _ _ _ => [(c, a)]
    | .acc c _, .own a _ _ _ _ => [(c, a)]
    | .acc c _, .acc a _ _ => [(c, a)]
    | .ptr c _, .ptr a _ => [(c, a)]
    | .agg l, .agg _ c => idsWith (Sh.ids n) l c
    | .tuple l, .tuple c => idsWith (Sh.ids n) l c
    | .func _ a b, .func _ x y => idsWith (Sh.ids n) a x ++ idsWith (Sh.ids n) b y
    | .iface _ s, .iface _ v => Sh.ids n s v
    | .apt c _, .apt a _ => [(c, a)]
    | .buf c _, .buf a _ _ => [(c, a)]
    | _, _ => []

/-- Shapes of own blocks. -/
inductive HS where
  | whole
  | each (l : List Sh)
/-- The shape of a state. -/
structure Tm where
  tmps : List (Nat × Sh)
  heap : List (Nat × HS)
  next : Nat

/-- Is no own block met, in any depth? -/
def closedN : Nat → AV → Bool
  | 0, _ => false
  | n + 1, x => match x with
    | .bool _ | .int _ _ | .str _ | .nil | .empty | .list _ _ _ | .seq _ _ | .nilptr | .ref _ _ _ | .nilFunc | .nilIface => true
    | .agg _ l | .tuple l => l.all (closedN n)
    | .func _ a b => a.all (closedN n) && b.all (closedN n)
    | .iface _ v => closedN n v
    | _ => false

namespace Tm
def tmpIds (s : St) : List (Nat × Sh) → List (Nat × Nat)
  | [] => []
  | (t, sh) :: l => match look s.tmps t with
    | some v => Sh.ids 20 sh v ++ tmpIds s l
    | none => tmpIds s l
def heapIds (s : St) : List (Nat × HS) → List (Nat × Nat) → List (Nat × Nat)
  | [], m => m
  | (c, hs) :: l, m => match hs with
    | .whole => heapIds s l m
    | .each shs => match look m c with
      | some a => match look s.heap a with
        | some (some b) => heapIds s l (m ++ idsWith (Sh.ids 20) shs b.cells.v)
        | _ => heapIds s l m
      | none => heapIds s l m
def baseIds (B : Nat) : List (Nat × HS) → List (Nat × Nat)
  | [] => []
  | (c, _) :: l => if Nat.blt c B then (c, c) :: baseIds B l else baseIds B l
def ids (tm : Tm) (B : Nat) (s : St) : List (Nat × Nat) := heapIds s tm.heap (baseIds B tm.heap ++ tmpIds s tm.tmps)
/-- The numbers go together. -/
def idsOk (tm : Tm) (B : Nat) (m : List (Nat × Nat)) : Bool :=
  m.all fun p => Nat.blt p.1 tm.next && (!(Nat.blt p.1 B || Nat.blt p.2 B) || Nat.beq p.1 p.2) && m.all fun q => Nat.beq p.1 q.1 == Nat.beq p.2 q.2
def distinctB : List (Nat × HS) → Bool
  | [] => true
  | (c, _) :: l => l.all (fun q => !Nat.beq c q.1) && distinctB l
def allOk (tm : Tm) (B nt : Nat) (s : St) (m : List (Nat × Nat)) : Bool :=
  Nat.beq s.nt nt && tm.idsOk B m && Nat.ble B tm.next && tm.heap.all (fun q => Nat.blt q.1 tm.next)
def getTmps (m : List (Nat × Nat)) (s : St) : List (Nat × Sh) → Option (List Dat)
  | [] => some []
  | (t, sh) :: l => match look s.tmps t with
    | some v => match Sh.get m 20 sh v, getTmps m s l with
      | some a, some b => some (a ++ b)
      | _, _ => none
    | none => none
def getHeap {β : Type} (B : Nat) (m : List (Nat × Nat)) (s : St) : List (Nat × HS) → (List Dat → O β) → O β
  | [], K => K []
  | (c, hs) :: l, K => match look m c with
    | none => match hs with
      | .whole => match Nat.ble B c with
        | true => getHeap B m s l fun ds => K (.l [] :: ds)
        | false => .none
      | .each _ => .none
    | some a => match look s.heap a with
      | some (some ⟨b, false⟩) => match hs with
        | .whole => .ite (b.v.all (closedN 20)) (getHeap B m s l fun ds => K (.l b.v :: ds)) .none
        | .each shs => match getsWith (Sh.get m 20) shs b.v with
          | some d => getHeap B m s l fun ds => K (d ++ ds)
          | none => .none
      | _ => .none
/-- The data of a state. -/
def getO {β : Type} (tm : Tm) (B nt : Nat) (s : St) (K : List Dat → O β) : O β :=
  match tm.allOk B nt s (tm.ids B s) with
  | true => match getTmps (tm.ids B s) s tm.tmps with
    | some d => getHeap B (tm.ids B s) s tm.heap fun ds => K (d ++ ds)
    | none => .none
  | false => .none
def elimTmps {β : Type} : List (Nat × Sh) → List Dat → (List (Nat × AV) → List Dat → O β) → O β
  | [], ds, K => K [] ds
  | (t, sh) :: l, ds, K => Sh.elim 20 sh ds fun v ds => elimTmps l ds fun vs ds => K ((t, v) :: vs) ds
def elimHeap {β : Type} : List (Nat × HS) → List Dat → (Heap → List Dat → O β) → O β
  | [], ds, K => K [] ds
  | (c, hs) :: l, ds, K => match hs with
    | .whole => .onL ds fun x ds => elimHeap l ds fun h ds => K ((c, some ⟨⟨false, x⟩, false⟩) :: h) ds
    | .each shs => elimsWith (Sh.elim 20) shs ds fun vs ds => elimHeap l ds fun h ds => K ((c, some ⟨⟨true, vs⟩, false⟩) :: h) ds
/-- A state, out of its data. -/
def elimO {β : Type} (tm : Tm) (nt : Nat) (ds : List Dat) (K : St → O β) : O β :=
  elimTmps tm.tmps ds fun tmps ds => elimHeap tm.heap ds fun h _ => K ⟨nt, tmps, h, tm.next⟩
end Tm

/-- A value, its own blocks read. -/
def frzsO {β : Type} (f : AV → (AV → O β) → O β) : List AV → (List AV → O β) → O β
  | [], K => K []
  | x :: l, K => f x fun y => frzsO f l fun m => K (y :: m)
def frzO {β : Type} (H : Heap) : Nat → AV → (AV → O β) → O β
  | 0, _, _ => .none
  | n + 1, x, K => match x with
    | .own id off len _ sz => match look H id with
      | some (some ⟨⟨false, l⟩, _⟩) => .ite (decide (off.v + len.v * sz ≤ l.length)) (.ite (((l.drop off.v).take (len.v * sz)).all (closedN 20)) (K (.list len false ((l.drop off.v).take (len.v * sz)))) .none) .none
      | some (some ⟨⟨true, l⟩, _⟩) => .ite (decide (off.v + len.v * sz ≤ l.length)) (frzsO (frzO H n) ((l.drop off.v).take (len.v * sz)) fun m => K (.list len true m)) .none
      | _ => .none
    | .acc id len sz => match look H id with
      | some (some ⟨⟨_, l⟩, _⟩) => .ite (decide (l.length = len.v * sz)) (.ite (l.all (closedN 20)) (K (.seq len l)) .none) .none
      | _ => .none
    | .ptr id off => match look H id with
      | some (some ⟨⟨true, l⟩, _⟩) => frzsO (frzO H n) l fun m => K (.ref true m off)
      | some (some ⟨⟨false, l⟩, _⟩) => .ite (l.all (closedN 20)) (K (.ref false l off)) .none
      | _ => .none
    | .agg b l => frzsO (frzO H n) l fun m => K (.agg true m)
    | .tuple l => frzsO (frzO H n) l fun m => K (.tuple m)
    | .iface t v => frzO H n v fun y => K (.iface t y)
    | .func f a b => frzsO (frzO H n) a fun x => frzsO (frzO H n) b fun y => K (.func f x y)
    | x => match closedN 20 x with
      | true => K x
      | false => .none

/-- Values of the shape lead to no cells. -/
def flatSh : Nat → Sh → Bool
  | 0, _ => false
  | n + 1, s => match s with
    | .int _ | .bool | .str | .ilit _ _ | .nil | .empty | .nilptr | .nilFunc | .nilIface => true
    | .agg l | .tuple l => l.all (flatSh n)
    | _ => false
/-- A function of plain data. -/
structure Fn where
  args : List Sh
  res : Sh
  run : List Dat → Option (List Dat)

/-- Where a piece of code stands: the tests of regions, the shapes of loops (the loop's first region, and the next own block's number). -/
structure Ctx where
  J : Jd
  tms : List (Nat × Nat × Tm)
abbrev XDesc := Code × Nat × List ResultVar × Ctx
/-- What a call does, in the machine's own words: from its arguments, the own blocks, the next number. -/
abbrev Rule := List AV → Heap → Nat → T

def fitWith (f : Sh → AV → Bool) : List Sh → List AV → Bool
  | s :: ss, v :: vs => f s v && fitWith f ss vs
  | _, _ => true
/-- Do the functions fit? -/
def fitSh : Nat → Sh → AV → Bool
  | 0, _, _ => true
  | n + 1, s, v => match s, v with
    | .func f _ _, .func f' _ _ => Nat.beq f f'
    | .agg l, .agg _ c => fitWith (fitSh n) l c
    | .tuple l, .tuple c => fitWith (fitSh n) l c
    | _, _ => true
def fitTm (s : St) : List (Nat × Sh) → Bool
  | [] => true
  | (t, sh) :: l => match look s.tmps t with
    | some v => fitSh 20 sh v && fitTm s l
    | none => fitTm s l
def sameLen {α β : Type} : List α → List β → Bool
  | [], [] => true
  | _ :: l, _ :: m => sameLen l m
  | _, _ => false
def fitHeap (m : List (Nat × Nat)) (s : St) : List (Nat × HS) → Bool
  | [] => true
  | (c, hs) :: l => match hs with
    | .whole => fitHeap m s l
    | .each shs => match look m c with
      | some a => match look s.heap a with
        | some (some b) => (!b.cells.lit || sameLen shs b.cells.v) && fitWith (fitSh 20) shs b.cells.v && fitHeap m s l
        | _ => fitHeap m s l
      | none => fitHeap m s l
def fitAll (B : Nat) (s : St) (tm : Tm) : Bool := fitTm s tm.tmps && fitHeap (tm.ids B s) s tm.heap
def findTm (B : Nat) (s : St) (id next : Nat) : List (Nat × Nat × Tm) → Option Tm
  | [] => none
  | (i, n, tm) :: l => match Nat.beq i id && Nat.beq n next && fitAll B s tm with
    | true => some tm
    | false => findTm B s id next l

def asI (k : IntKind) : Option AV → Option Int
  | some (.int k' i) => if k = k' then some i.v else none
  | _ => none
def asB : Option AV → Option Bool
  | some (.bool b) => some b
  | _ => none
def asS : Option AV → Option (List UInt8)
  | some (.str s) => some s.v
  | _ => none
def asL : Option AV → Option (Nat × List AV)
  | some .nil => some (0, [])
  | some .empty => some (0, [])
  | some (.list n _ c) => some (n.v, c)
  | some (.seq n c) => some (n.v, c)
  | _ => none

section
variable (τ : Tys) (G : Nat → Option (List AV)) (D : Nat → Option XDesc) (R : Nat → Option Rule) (E : Nat → Option Fn)
/-- One more depth. -/
noncomputable def Xs (prev : Ctx → Nat → T → (β : Type) → (Ex → St → O β) → O β) (cx : Ctx) (B : Nat) (t : T) : (β : Type) → (Ex → St → O β) → O β :=
  T.rec (motive := fun _ => (β : Type) → (Ex → St → O β) → O β)
    (fun _ _ => .none)
    (fun e st _ κ => κ e st)
    (fun e _ ih β κ => ih (.sym (e ())) β κ)
    (fun e _ ih β κ => ih (.sym (e ())) β κ)
    (fun e _ ih β κ => ih (.sym (e ())) β κ)
    (fun l _ ih β κ => .bind (bytesOf l) fun s => ih (.sym s) β κ)
    (fun p _ ih β κ => .ite (p ()) (ih true β κ) (ih false β κ))
    (fun p _ ih β κ => .ite (p ()) (ih () β κ) .none)
    (fun ty l _ ih β κ => match ty with
      | .int k => .bind (asI k (l ())) fun n => ih (.int k (.sym n)) β κ
      | .bool => .bind (asB (l ())) fun b => ih (.bool b) β κ
      | .string => .bind (asS (l ())) fun s => ih (.str (.sym s)) β κ
      | .slice _ => .bind (asL (l ())) fun p => ih (.seq (.sym p.1) p.2) β κ
      | _ => .none)
    (fun e _ ih β κ => ih ⟨false, e ()⟩ β κ)
    (fun f args h n _ ih β κ => match E f with
      | some fn => frzsO (frzO h 20) args fun fargs => match getsWith (Sh.get [] 20) fn.args fargs with
        | some ds => .bind (fn.run ds) fun r => Sh.elim 20 fn.res r fun v _ => match flatB 20 v || args.all (closedN 20) with
          | true => ih v h n β κ
          | false => frzsO (frzO (keepH (args.flatMap (reachA h 20)) h) 20) args fun fargs => match getsWith (Sh.get [] 20) fn.args fargs with
            | some ds => .bind (fn.run ds) fun r => Sh.elim 20 fn.res r fun v _ => ih v (shutH (args.flatMap (reachA h 20)) h) n β κ
            | none => .none
        | none => .none
      | none => match R f with
        | some r => prev ⟨⟨[], [], []⟩, []⟩ n (r args h n) β fun _ st => match st.tmps with
          | [(_, x)] => ih x st.heap st.next β κ
          | _ => .none
        | none => match D f with
          | some (c, nt, res, cx') => match Nat.ble args.length nt with
            | true => prev cx' n (bodyT τ G cx'.J c nt res args h n) β fun _ st => match st.tmps with
              | [(_, x)] => ih x st.heap st.next β κ
              | _ => .none
            | false => .none
          | none => .none)
    (fun f args h _ ih β κ => frzsO (frzO h 20) args fun fargs => match E f with
      | some fn => match getsWith (Sh.get [] 20) fn.args fargs with
        | some ds => .bind (fn.run ds) fun r => Sh.elim 20 fn.res r fun v _ => match flatB 20 v || args.all (closedN 20) with
          | true => ih v β κ
          | false => .none
        | none => .none
      | none => .none)
    (fun c st k ih β κ => match findTm B st (firstId c) st.next cx.tms with
      | some tm => tm.getO B st.nt st fun ds => .loop (fun ds => tm.elimO st.nt ds fun st1 => prev cx B (runT τ G cx.J c st1 .done) (List Dat ⊕ β) fun e st' => match e with
          | .normal => tm.getO B st.nt st' fun ds' => .ret (.inl ds')
          | e => .mapR (ih e st' β κ)) ds
      | none => prev cx B (runT τ G cx.J c st .done) β fun e st' => match e with
          | .normal => prev cx B (.loop c st' k) β κ
          | e => ih e st' β κ)
    (fun c st _ ih β κ => match findTm B st (firstId c + 1000000) st.next cx.tms with
      | some tm => .bindO (prev cx B (runT τ G cx.J c st .done) (List Dat ⊕ β) fun e st' => match e with
          | .normal => tm.getO B st.nt st' fun ds' => .ret (.inl ds')
          | e => .mapR (ih e st' β κ)) fun x => .onR x (fun ds => tm.elimO st.nt ds fun st1 => ih .normal st1 β κ)
      | none => .none)
    (fun _ d _ iht ih β κ => .bindO (iht Bool fun e st => match e with
        | .normal => match look st.tmps d with
          | some (.bool b) => .ret b
          | _ => .none
        | _ => .none) fun b => ih b β κ)
    (fun n _ ih β κ => forceI n fun n => ih n β κ)
    (fun n _ ih β κ => forceN n fun n => ih n β κ)
    (fun n _ ih β κ => forceS n fun n => ih n β κ)
    (fun n _ ih β κ => forceL n fun n => ih n β κ)
    (fun n _ ih β κ => forceH n fun n => ih n β κ)
    (fun n _ ih β κ => forceSt n fun n => ih n β κ)
    t
noncomputable def X (n : Nat) : Ctx → Nat → T → (β : Type) → (Ex → St → O β) → O β :=
  Nat.rec (motive := fun _ => Ctx → Nat → T → (β : Type) → (Ex → St → O β) → O β) (fun _ _ _ _ _ => .none) (fun _ prev => Xs τ G D R E prev) n

/-- A function's data, out of its body. -/
noncomputable def fnO (n f : Nat) (args : List Sh) (res : Sh) (ds : List Dat) : O (List Dat) :=
  elimsWith (Sh.elim 20) args ds fun vs _ => match D f with
    | some (c, nt, rs, cx) => match Nat.ble vs.length nt with
      | true => X τ G D R E n cx 0 (bodyT τ G cx.J c nt rs vs [] 0) (List Dat) fun _ st => match st.tmps with
        | [(_, x)] => frzO st.heap 20 x fun v => match Sh.get [] 20 res v with
          | some r => .ret r
          | none => .none
        | _ => .none
      | false => .none
    | none => .none
end
end Go.Ax
