/-
  A small abstract machine over the kit's own code: values without addresses where memory is only read, own blocks with numbers where it is written. The definitions.
-/
import Derived.Calls
import Derived.LoopN
import Derived.Below
import GoSem.Dispatch
namespace Go.Ax
set_option linter.unusedVariables false

/-- Numbers, lists and strings that are written out, or not. -/
inductive I where | lit (n : Int) | sym (n : Int)
  deriving Inhabited
inductive N where | lit (n : Nat) | sym (n : Nat)
  deriving Inhabited
inductive S where | lit (s : List UInt8) | sym (s : List UInt8)
  deriving Inhabited
def I.v : I → Int | .lit n => n | .sym n => n
def N.v : N → Nat | .lit n => n | .sym n => n
def S.v : S → List UInt8 | .lit n => n | .sym n => n

inductive AV where
  | bool (b : Bool)
  | int (k : IntKind) (n : I)
  | str (s : S)
  | nil
  | empty
  | list (n : N) (lit : Bool) (cells : List AV)
  | seq (n : N) (cells : List AV)
  | own (id : Nat) (off len : N) (cap : Option N) (sz : Nat)
  | acc (id : Nat) (len : N) (sz : Nat)      -- nil, or an own slice from 0 on whose capacity isn't known
  | nilptr
  | ptr (id : Nat) (off : N)
  | ref (lit : Bool) (cells : List AV) (off : N)
  | agg (lit : Bool) (cells : List AV)
  | tuple (vs : List AV)
  | nilFunc
  | func (f : Nat) (first captured : List AV)
  | nilIface
  | iface (t : Nat) (v : AV)
  | apt (id ty : Nat)                          -- nil, or the address of an own block of a type, of two cells
  | buf (id : Nat) (len : N) (ty : Nat)        -- like acc, of bytes, of a block of a type
  deriving Inhabited

/-- Cells that are written out, or not. -/
structure L where
  lit : Bool
  v : List AV

structure Blk where
  cells : L
  shut : Bool

abbrev Heap := List (Nat × Option Blk)

def look {α : Type} : List (Nat × α) → Nat → Option α
  | [], _ => none
  | (k, v) :: l, t => if k = t then some v else look l t

structure St where
  nt : Nat
  tmps : List (Nat × AV)
  heap : Heap
  next : Nat

inductive Ex where | normal | exit (i : Nat) | ret

/-- Kinds of types, as far as they are needed. -/
inductive TK where
  | plain
  | int (k : IntKind)
  | bool
  | string
  | iface
  | ptr (elem : Nat)
  | func
  | slice (elem : Nat)
  | map (key elem : Nat)
  | array (len elem : Nat)
  | struct (fields : List (Nat × Nat))      -- offset, type

structure TI where
  kind : TK
  size : Nat
  bytes : Nat
  zero : List AV
  eq : List TK      -- the kinds of the cells of a struct that can be compared; none: not said

abbrev Tys := Nat → Option TI

def TK.isAgg : TK → Bool
  | .array _ _ | .struct _ => true
  | _ => false

inductive T where
  | fail
  | done (e : Ex) (st : St)
  | int (e : Unit → Int) (k : I → T)
  | nat (e : Unit → Nat) (k : N → T)
  | str (e : Unit → List UInt8) (k : S → T)
  | bytes (e : List AV) (k : S → T)
  | cmp (p : Unit → Bool) (k : Bool → T)
  | req (p : Unit → Bool) (k : Unit → T)
  | idx (t : TK) (l : Unit → Option AV) (k : AV → T)
  | lst (e : Unit → List AV) (k : L → T)
  | call (f : Nat) (args : List AV) (h : Heap) (n : Nat) (k : AV → Heap → Nat → T)
  | fcall (f : Nat) (args : List AV) (h : Heap) (k : AV → T)
  | loop (c : Code) (st : St) (k : Ex → St → T)
  | cut (c : Code) (st : St) (k : Ex → St → T)
  -- a test that several ways come to
  | join (t : T) (d : Nat) (k : Bool → T)
  -- what is known is reckoned at once
  | evI (n : Int) (k : Int → T)
  | evN (n : Nat) (k : Nat → T)
  | evS (s : List UInt8) (k : List UInt8 → T)
  | evL (l : List AV) (k : List AV → T)
  | evH (h : Heap) (k : Heap → T)
  | evM (h : St) (k : St → T)

/-- The cells of a value that can be stored. -/
def cellsT (v : AV) (K : L → T) : T :=
  match v with
  | .tuple _ => .fail
  | .agg b cs => K ⟨b, cs⟩
  | v => K ⟨true, [v]⟩

/-! Arithmetic that stays as it is where something isn't written out. -/
def addN (a b : N) (K : N → T) : T :=
  match a, b with
  | .lit 0, b => K b
  | a, .lit 0 => K a
  | .lit a, .lit b => .evN (a + b) fun r => K (.lit r)
  | a, b => .nat (fun _ => a.v + b.v) K
def mulN (a : N) (b : Nat) (K : N → T) : T :=
  match a, b with
  | a, 1 => K a
  | .lit a, b => .evN (a * b) fun r => K (.lit r)
  | a, b => .nat (fun _ => a.v * b) K
def subN (a b : N) (K : N → T) : T :=
  match a, b with
  | a, .lit 0 => K a
  | .lit a, .lit b => .evN (a - b) fun r => K (.lit r)
  | a, b => .nat (fun _ => a.v - b.v) K
def leN (a b : N) (K : Unit → T) : T :=
  match a, b with
  | .lit a, .lit b => if a ≤ b then K () else .fail
  | a, b => .req (fun _ => decide (a.v ≤ b.v)) K
def eqN (a b : N) (K : Unit → T) : T :=
  match a, b with
  | .lit a, .lit b => if a = b then K () else .fail
  | a, b => .req (fun _ => decide (a.v = b.v)) K
def natI (a : I) (K : N → T) : T :=
  match a with
  | .lit a => .evN a.toNat fun r => K (.lit r)
  | a => .nat (fun _ => a.v.toNat) K
def intN (a : N) : I :=
  match a with
  | .lit a => .lit a
  | .sym a => .sym a
/-- '0 ≤ i ∧ i ≤ n' -/
def leI (i : I) (n : N) (K : Unit → T) : T :=
  match i, n with
  | .lit i, .lit n => if 0 ≤ i ∧ i ≤ n then K () else .fail
  | i, n => .req (fun _ => decide (0 ≤ i.v ∧ i.v ≤ n.v)) K
/-- '0 ≤ i ∧ i < n' -/
def ltI (i : I) (n : N) (K : Unit → T) : T :=
  match i, n with
  | .lit i, .lit n => if 0 ≤ i ∧ i < n then K () else .fail
  | i, n => .req (fun _ => decide (0 ≤ i.v ∧ i.v < n.v)) K

/-! Cells. -/
def lenLit : List AV → Nat
  | [] => 0
  | _ :: l => lenLit l + 1
def getL (t : TK) (l : L) (i : N) (K : AV → T) : T :=
  match l, i with
  | ⟨true, l⟩, .lit i => match l[i]? with | some x => K x | none => .fail
  | ⟨_, l⟩, i => .idx t (fun _ => l[i.v]?) K
/-- 'i + n' cells are there at least. -/
def fitL (l : L) (i n : N) (K : Unit → T) : T :=
  match l, i, n with
  | ⟨true, l⟩, .lit i, .lit n => if i + n ≤ lenLit l then K () else .fail
  | ⟨_, l⟩, i, n => .req (fun _ => decide (i.v + n.v ≤ l.length)) K
def subL (l : L) (i n : N) (K : L → T) : T :=
  fitL l i n fun _ =>
  match l, i, n with
  | ⟨true, l⟩, .lit i, .lit n => .evL ((l.drop i).take n) fun r => K ⟨true, r⟩
  | ⟨_, l⟩, i, n => .lst (fun _ => (l.drop i.v).take n.v) K
def appL (l m : L) (K : L → T) : T :=
  match l, m with
  | ⟨true, l⟩, ⟨true, m⟩ => .evL (l ++ m) fun r => K ⟨true, r⟩
  | ⟨_, l⟩, ⟨_, m⟩ => .lst (fun _ => l ++ m) K
def write {α : Type} (cells : List α) (off : Nat) (new : List α) : List α := cells.take off ++ new ++ cells.drop (off + new.length)
/-- n cells are written from 'off' on. -/
def writeL (l : L) (off : N) (n : N) (m : L) (K : L → T) : T :=
  fitL l off n fun _ =>
  match l, off, m with
  | ⟨true, l⟩, .lit i, ⟨true, m⟩ => if lenLit m = n.v then .evL (write l i m) fun r => K ⟨true, r⟩ else .fail
  | ⟨_, l⟩, i, ⟨_, m⟩ => .req (fun _ => decide (m.length = n.v)) fun _ => .lst (fun _ => write l i.v m) K
def sizeL (m : L) (n : N) (K : Unit → T) : T :=
  match m, n with
  | ⟨true, m⟩, .lit n => if lenLit m = n then K () else .fail
  | ⟨_, m⟩, n => .req (fun _ => decide (m.length = n.v)) K

/-- A constant. -/
def ofV0 : Value → Option AV
  | .bool b => some (.bool b)
  | .int k n => some (.int k (.lit n))
  | .string b => some (.str (.lit b.data.toList))
  | .slice none 0 0 => some .nil
  | .pointer none => some .nilptr
  | .nilFunc => some .nilFunc
  | .nilIface => some .nilIface
  | .func (.func f) a b => if a.size = 0 ∧ b.size = 0 then some (.func f [] []) else none
  | _ => none
def ofVs : List Value → Option (List AV)
  | [] => some []
  | v :: l => match ofV0 v, ofVs l with
    | some x, some xs => some (x :: xs)
    | _, _ => none
def ofV : Value → Option AV
  | .agg cs => (ofVs cs.toList).map (.agg true)
  | v => ofV0 v

section
variable (τ : Tys) (G : Nat → Option (List AV))

def St.ev (s : St) : Operand → Option AV
  | .tmp t => look s.tmps t
  | .const v => ofV v
  | .global g => (G g).map (.ref true · (.lit 0))
  | .func f => some (.func f [] [])

def St.put (s : St) (d : Option Nat) (v : AV) : St :=
  match d with
  | some d => { s with tmps := (d, v) :: s.tmps }
  | none => s

def St.evs (s : St) : List Operand → Option (List AV)
  | [] => some []
  | o :: l => match s.ev G o, s.evs l with
    | some v, some vs => some (v :: vs)
    | _, _ => none

def isCmp : BinOp → Bool
  | .eql | .neq | .lss | .leq | .gtr | .geq => true
  | _ => false
def cmpI (op : BinOp) (a b : Int) : Bool :=
  match op with
  | .eql => a == b
  | .neq => a != b
  | .lss => decide (a < b)
  | .leq => decide (a ≤ b)
  | .gtr => decide (a > b)
  | _ => decide (a ≥ b)
def cmpS (op : BinOp) (a b : List UInt8) : Bool :=
  match op with
  | .eql => a == b
  | .neq => !(a == b)
  | .lss => Op.bytesLess a b
  | .leq => Op.bytesLess a b || a == b
  | .gtr => !(Op.bytesLess a b || a == b)
  | _ => !(Op.bytesLess a b)
/-- Bits: and, or, xor, andNot. -/
def bitsI (op : BinOp) (k : IntKind) (x y : Int) : Int :=
  let a := BitVec.ofInt k.bits x
  let b := BitVec.ofInt k.bits y
  match op with
  | .and => k.wrap (a &&& b).toNat
  | .or => k.wrap (a ||| b).toNat
  | .xor => k.wrap (a ^^^ b).toNat
  | _ => k.wrap (a &&& ~~~b).toNat
def arith (op : BinOp) (k : IntKind) (a b : Int) : Int :=
  match op with
  | .add => k.wrap (a + b)
  | .sub => k.wrap (a - b)
  | .mul => k.wrap (a * b)
  | .quo => k.wrap (a.tdiv b)
  | .rem => a.tmod b
  | .shl => k.wrap (a * 2 ^ (min b.toNat k.bits))
  | .shr => a.fdiv (2 ^ (min b.toNat k.bits))
  | op => bitsI op k a b
def arithT (op : BinOp) (k : IntKind) (a b : I) (K : AV → T) : T :=
  match a, b with
  | .lit a, .lit b => .evI (arith op k a b) fun r => K (.int k (.lit r))
  | a, b => .int (fun _ => arith op k a.v b.v) fun r => K (.int k r)
def cmpT (p : Unit → Bool) (lit : Bool) (K : AV → T) : T :=
  if lit then (if p () then K (.bool true) else K (.bool false)) else .cmp p fun r => K (.bool r)
def I.isLit : I → Bool | .lit _ => true | _ => false
def N.isLit : N → Bool | .lit _ => true | _ => false
def S.isLit : S → Bool | .lit _ => true | _ => false
def reqB (p : Unit → Bool) (lit : Bool) (K : Unit → T) : T :=
  if lit then (if p () then K () else .fail) else .req p K

def intT (op : BinOp) (k : IntKind) (a b : I) (K : AV → T) : T :=
  match op with
  | .eql | .neq | .lss | .leq | .gtr | .geq => cmpT (fun _ => cmpI op a.v b.v) (a.isLit && b.isLit) K
  | .quo | .rem => reqB (fun _ => b.v != 0) b.isLit fun _ => arithT op k a b K
  | .shl | .shr => reqB (fun _ => decide (0 ≤ b.v)) b.isLit fun _ => arithT op k a b K
  | op => arithT op k a b K

def isShift : BinOp → Bool
  | .shl | .shr => true
  | _ => false

def nilB (op : BinOp) (b : Bool) (K : AV → T) : T :=
  match op with
  | .eql => K (.bool b)
  | .neq => K (.bool (!b))
  | _ => .fail

def strCat (a b : S) (K : S → T) : T :=
  match a, b with
  | .lit a, .lit b => .evS (a ++ b) fun r => K (.lit r)
  | a, b => .str (fun _ => a.v ++ b.v) K

/-- Is the type of a kind? -/
def isK (t : Nat) (p : TK → Bool) : Bool :=
  match τ t with
  | some ti => p ti.kind
  | none => false
def TK.isBool : TK → Bool | .bool => true | _ => false
def TK.isStr : TK → Bool | .string => true | _ => false
def TK.isSlice : TK → Bool | .slice _ => true | _ => false
def TK.isFunc : TK → Bool | .func => true | _ => false
def TK.isIface : TK → Bool | .iface => true | _ => false
def TK.isAny : TK → Bool | _ => true
def TK.isU8 : TK → Bool | .int .u8 => true | _ => false
def isBytes (t : Nat) : Bool :=
  match τ t with
  | some ⟨.slice e, _, _, _, _⟩ => isK τ e TK.isU8
  | _ => false

/-- Cells that are equal. -/
def eqCell (tk : TK) (x y : AV) : Option (Unit → Bool) :=
  match tk, x, y with
  | .int k, .int k1 a, .int k2 b => if k1 = k ∧ k2 = k then some fun _ => decide (a.v = b.v) else none
  | .bool, .bool a, .bool b => some fun _ => a == b
  | .string, .str s, .str t => some fun _ => s.v == t.v
  | _, _, _ => none
def eqCells : List TK → List AV → List AV → Option (Unit → Bool)
  | [], [], [] => some fun _ => true
  | tk :: l, x :: xs, y :: ys => match eqCell tk x y, eqCells l xs ys with
    | some p, some q => some fun _ => p () && q ()
    | _, _ => none
  | _, _, _ => none
def eqAgg (l : List TK) (op : BinOp) (xs ys : List AV) (K : AV → T) : T :=
  match l with
  | [] => .fail
  | l => match eqCells l xs ys with
    | some p => match op with
      | .eql => .cmp p fun r => K (.bool r)
      | .neq => .cmp p fun r => K (.bool (!r))
      | _ => .fail
    | none => .fail
def binT (t : Nat) (op : BinOp) (x y : AV) (K : AV → T) : T :=
  match x, y with
  | .int k a, .int k' b => if isShift op then intT op k a b K else if k = k' then intT op k a b K else .fail
  | .str a, .str b => match op with
    | .add => reqB (fun _ => decide (a.v.length + b.v.length ≤ 9223372036854775807)) (a.isLit && b.isLit) fun _ => strCat a b fun r => K (.str r)
    | op => if isCmp op then cmpT (fun _ => cmpS op a.v b.v) (a.isLit && b.isLit) K else .fail
  | .bool a, .bool b => if isK τ t TK.isBool then match op with
    | .eql => K (.bool (a == b))
    | .neq => K (.bool (!(a == b)))
    | _ => .fail
    else .fail
  | .nil, .nil => if isK τ t TK.isSlice then nilB op true K else .fail
  | .nil, .list _ _ _ | .nil, .own _ _ _ _ _ | .nil, .empty => if isK τ t TK.isSlice then nilB op false K else .fail
  | .list _ _ _, .nil | .own _ _ _ _ _, .nil | .empty, .nil => if isK τ t TK.isSlice then nilB op false K else .fail
  | .nilFunc, .nilFunc => if isK τ t TK.isFunc then nilB op true K else .fail
  | .nilFunc, .func _ _ _ => if isK τ t TK.isFunc then nilB op false K else .fail
  | .func _ _ _, .nilFunc => if isK τ t TK.isFunc then nilB op false K else .fail
  | .agg _ xs, .agg _ ys => match τ t with
    | some ti => eqAgg ti.eq op xs ys K
    | none => .fail
  | _, _ => .fail

def unT (op : UnOp) (x : AV) (K : AV → T) : T :=
  match op, x with
  | .not, .bool b => K (.bool (!b))
  | .neg, .int k n => arithT .sub k (.lit 0) n K
  | .xor, .int k n => arithT .xor k (.lit (if k.signed then -1 else k.max)) n K
  | _, _ => .fail

/-- The kinds of the cells of a type. -/
def tksOf : Nat → Nat → List TK
  | 0, _ => []
  | n + 1, t => match τ t with
    | some ti => match ti.kind with
      | .array m e => (List.replicate m (tksOf n e)).flatten
      | .struct fs => (fs.map fun f => tksOf n f.2).flatten
      | k => [k]
    | none => []
def TK.plainK : TK → Bool
  | .int _ | .bool | .string | .slice _ => true
  | _ => false
/-- Cells, one by one, out of cells that aren't written out. -/
def idxsT : List TK → (Unit → List AV) → (List AV → T) → T
  | [], _, K => K []
  | tk :: tks, l, K => .idx tk (fun _ => (l ())[0]?) fun x => idxsT tks (fun _ => (l ()).drop 1) fun xs => K (x :: xs)
/-- Cells from an index on, of a value of a type. -/
def partT (t : Nat) (cells : L) (off : N) (K : AV → T) : T :=
  match τ t with
  | some ti => if ti.kind.isAgg then
      (match cells.lit && off.isLit, decide (ti.size ≤ 40) && decide (0 < ti.size) && (tksOf τ 10 t).all TK.plainK && decide ((tksOf τ 10 t).length = ti.size) with
      | false, true => idxsT (tksOf τ 10 t) (fun _ => cells.v.drop off.v) fun xs => K (.agg true xs)
      | _, _ => subL cells off (.lit ti.size) fun l => K (.agg l.lit l.v))
    else getL ti.kind cells off K
  | none => .fail

def heapT (h : Heap) (id : Nat) (K : Blk → T) : T :=
  match look h id with
  | some (some b) => K b
  | _ => .fail

def loadT (h : Heap) (t : Nat) (x : AV) (K : AV → T) : T :=
  match x with
  | .ptr id off => heapT h id fun b => partT τ t b.cells off K
  | .ref lit cells off => partT τ t ⟨lit, cells⟩ off K
  | _ => .fail

def fieldAt (t f : Nat) : Option (Nat × Nat) :=
  match τ t with
  | some ti => match ti.kind with
    | .struct fs => fs[f]?
    | _ => none
  | none => none

def elemOf (t : Nat) : Option (Nat × TI) :=
  match τ t with
  | some ti => match ti.kind with
    | .slice e => (τ e).map (e, ·)
    | _ => none
  | none => none

def arrayOf (t : Nat) : Option (Nat × Nat × TI) :=
  match τ t with
  | some ti => match ti.kind with
    | .array n e => (τ e).map (n, e, ·)
    | _ => none
  | none => none

/-- The place of an element: 'off + i * sz', for an index in range. -/
def placeT (i : I) (n : N) (off : N) (sz : Nat) (K : N → T) : T :=
  ltI i n fun _ => natI i fun j => mulN j sz fun m => addN off m K

/-- Which cell it is, one by one. -/
def spreadT (i : I) (off : N) (sz : Nat) (K : N → T) : Nat → T
  | 0 => .fail
  | k + 1 => .cmp (fun _ => decide (i.v = (k : Int))) fun b => match b with
    | true => addN off (.lit (k * sz)) K
    | false => spreadT i off sz K k
def AV.isFn : AV → Bool
  | .func _ _ _ | .nilFunc => true
  | _ => false
/-- The place of an element; of functions, one by one. -/
def placeX (lit : Bool) (cells : List AV) (i : I) (n : N) (off : N) (sz : Nat) (K : N → T) : T :=
  match lit && cells.any AV.isFn, i, n with
  | true, .sym i, .lit m => ltI (.sym i) (.lit m) fun _ => spreadT (.sym i) off sz K m
  | _, i, n => placeT i n off sz K

def fnLit (H : Heap) (id : Nat) : Bool :=
  match look H id with
  | some (some b) => b.cells.lit
  | _ => false
def fnV (H : Heap) (id : Nat) : List AV :=
  match look H id with
  | some (some b) => b.cells.v
  | _ => []
/-- 'x[i]', an address. -/
def indexAddrT (H : Heap) (t : Nat) (x : AV) (i : I) (K : AV → T) : T :=
  match x with
  | .list n lit cells => match elemOf τ t with
    | some (_, e) => placeX lit cells i n (.lit 0) e.size fun m => K (.ref lit cells m)
    | none => .fail
  | .seq n cells => match elemOf τ t with
    | some (_, e) => placeT i n (.lit 0) e.size fun m => K (.ref false cells m)
    | none => .fail
  | .own id off len _ sz => match elemOf τ t with
    | some (_, e) => if sz = e.size then placeX (fnLit H id) (fnV H id) i len off e.size fun m => K (.ptr id m) else .fail
    | none => .fail
  | .acc id len sz => match elemOf τ t with
    | some (_, e) => if sz = e.size then placeT i len (.lit 0) e.size fun m => K (.ptr id m) else .fail
    | none => .fail
  | .ptr id off => match arrayOf τ t with
    | some (n, _, e) => placeX (fnLit H id) (fnV H id) i (.lit n) off e.size fun m => K (.ptr id m)
    | none => .fail
  | .ref lit cells off => match arrayOf τ t with
    | some (n, _, e) => placeX lit cells i (.lit n) off e.size fun m => K (.ref lit cells m)
    | none => .fail
  | _ => .fail

def S.len (s : S) (K : N → T) : T :=
  match s with
  | .lit s => .evN s.length fun r => K (.lit r)
  | .sym s => .nat (fun _ => s.length) K

def S.get (s : S) (j : N) (K : I → T) : T :=
  match s, j with
  | .lit s, .lit j => .evI (s.getD j 0).toNat fun r => K (.lit r)
  | s, j => .int (fun _ => (s.v.getD j.v 0).toNat) K

/-- 'x[i]', a value. -/
def indexT (t : Nat) (x : AV) (i : I) (K : AV → T) : T :=
  match x with
  | .agg lit cells => match arrayOf τ t with
    | some (n, et, e) => placeX lit cells i (.lit n) (.lit 0) e.size fun m => partT τ et ⟨lit, cells⟩ m K
    | none => .fail
  | .str s => if isK τ t TK.isStr then s.len fun n => ltI i n fun _ => natI i fun j => s.get j fun r => K (.int .u8 r) else .fail
  | _ => .fail

def ints : List (Option AV) → Option (List (Option I))
  | [] => some []
  | none :: l => (ints l).map (none :: ·)
  | some (.int _ i) :: l => (ints l).map (some i :: ·)
  | _ => none

/-- Bounds of a slice: low and high, at most up to y; the length where high is left out. -/
def boundsT (y len : N) (lo hi : Option I) (K : N → N → T) : T :=
  match lo, hi with
  | none, none => K (.lit 0) len
  | none, some h => leI h y fun _ => natI h fun h => K (.lit 0) h
  | some l, none => leI l len fun _ => natI l fun l => K l len
  | some l, some h => leI h y fun _ => natI h fun h => leI l h fun _ => natI l fun l => K l h

def S.sub (s : S) (l n : N) (K : S → T) : T :=
  match s, l, n with
  | .lit s, .lit l, .lit n => .evS ((s.drop l).take n) fun r => K (.lit r)
  | s, l, n => .str (fun _ => (s.v.drop l.v).take n.v) K

def ltN (a b : N) (K : Unit → T) : T :=
  match a, b with
  | .lit a, .lit b => if a < b then K () else .fail
  | a, b => .req (fun _ => decide (a.v < b.v)) K

/-- Is there room behind? -/
def gapN (l y : N) (yes no : Unit → T) : T :=
  match l, y with
  | .lit l, .lit y => if l < y then yes () else no ()
  | l, y => .cmp (fun _ => decide (l.v < y.v)) fun b => if b then yes () else no ()
def ownSub (id : Nat) (off : N) (y len : N) (cap : Option N) (sz : Nat) (lo hi : Option I) (K : AV → T) : T :=
  boundsT y len lo hi fun l h =>
    match cap with
    | some c => gapN l y (fun _ => mulN l sz fun m => addN off m fun o => subN h l fun n => subN c l fun c => K (.own id o n (some c) sz)) fun _ => K .empty
    | none => ltN l y fun _ => mulN l sz fun m => addN off m fun o => subN h l fun n => K (.own id o n none sz)

def sliceT (t : Nat) (x : AV) (lo hi : Option I) (K : AV → T) : T :=
  match x with
  | .str s => if isK τ t TK.isStr then s.len fun y => boundsT y y lo hi fun l h => subN h l fun n => s.sub l n fun r => K (.str r) else .fail
  | .nil => match elemOf τ t with
    | some _ => boundsT (.lit 0) (.lit 0) lo hi fun l h => K .nil
    | none => .fail
  | .list n lit cells => match elemOf τ t with
    | some (_, e) => boundsT n n lo hi fun l h => subN h l fun m => mulN l e.size fun o => mulN m e.size fun c => subL ⟨lit, cells⟩ o c fun r => K (.list m r.lit r.v)
    | none => .fail
  | .seq n cells => match elemOf τ t with
    | some (_, e) => boundsT n n lo hi fun l h => subN h l fun m => mulN l e.size fun o => mulN m e.size fun c => subL ⟨false, cells⟩ o c fun r => K (.seq m r.v)
    | none => .fail
  | .own id off len (some c) sz => match elemOf τ t with
    | some (_, e) => if sz = e.size then leN len c fun _ => ownSub id off c len (some c) sz lo hi K else .fail
    | none => .fail
  | .own id off len none sz => match elemOf τ t with
    | some (_, e) => if sz = e.size then ownSub id off len len none sz lo hi K else .fail
    | none => .fail
  | _ => .fail

/-- A slice of an array that a pointer leads to, or of another value. -/
def sliceH (H : Heap) (t : Nat) (x : AV) (lo hi : Option I) (K : AV → T) : T :=
  match x with
  | .ptr id off => match arrayOf τ t with
    | some (n, _, e) => heapT H id fun b => fitL b.cells off (.lit (n * e.size)) fun _ => ownSub id off (.lit n) (.lit n) (some (.lit n)) e.size lo hi K
    | none => .fail
  | v => sliceT τ t v lo hi K

/-- 's[:0:0]' -/
def slice0T (t : Nat) (x : AV) (lo : Option I) (hi max : I) (K : AV → T) : T :=
  match hi, max, lo with
  | .lit 0, .lit 0, none | .lit 0, .lit 0, some (.lit 0) => match elemOf τ t, x with
    | some _, .nil => K .nil
    | some _, .list _ _ _ | some _, .own _ _ _ _ _ | some _, .empty => K .empty
    | _, _ => .fail
  | _, _, _ => .fail

def bytesOf : List AV → Option (List UInt8)
  | [] => some []
  | .int .u8 n :: l => (bytesOf l).map (UInt8.ofNat n.v.toNat :: ·)
  | _ => none
def byteCells (s : List UInt8) : List AV := s.map fun c => .int .u8 (.lit c.toNat)
def byteL (s : S) (K : L → T) : T :=
  match s with
  | .lit s => .evL (byteCells s) fun r => K ⟨true, r⟩
  | .sym s => .lst (fun _ => byteCells s) K

def listC {α : Type} (n : Nat) (z : List α) : List α :=
  match n with
  | 0 => []
  | n + 1 => z ++ listC n z
def repL (n : N) (z : List AV) (K : L → T) : T :=
  match n with
  | .lit n => .evL (listC n z) fun r => K ⟨true, r⟩
  | .sym n => .lst (fun _ => listC n z) K

def fillT (place : Nat → Option (Nat × Nat)) : List (Nat × AV) → L → (L → T) → T
  | [], cells, K => K cells
  | (i, v) :: rest, cells, K => match place i with
    | some (off, size) => cellsT v fun w => writeL cells (.lit off) (.lit size) w fun c => fillT place rest c K
    | none => .fail

def sizeOf (t : Nat) : Option Nat := (τ t).map (·.size)

def placeOf (k : TK) (i : Nat) : Option (Nat × Nat) :=
  match k with
  | .struct fs => match fs[i]? with
    | some (off, t) => (sizeOf τ t).map (off, ·)
    | none => none
  | .array _ e => (sizeOf τ e).map fun s => (i * s, s)
  | _ => none

def St.parts (s : St) (ps : List (Nat × Operand)) : Option (List (Nat × AV)) :=
  match s.evs G (ps.map (·.2)) with
  | some vs => some ((ps.map (·.1)).zip vs)
  | none => none

/-- All fields are of known types. -/
def TK.known (τ : Tys) : TK → Bool
  | .struct fs => fs.all fun f => (τ f.2).isSome
  | .array _ e => (τ e).isSome
  | _ => false
def buildT (t : Nat) (parts : List (Nat × AV)) (K : AV → T) : T :=
  match τ t with
  | some ti => if ti.kind.known τ then fillT (placeOf τ ti.kind) parts ⟨true, ti.zero⟩ fun c => K (.agg c.lit c.v) else .fail
  | none => .fail

def convT (dst : Nat) (x : AV) (K : AV → T) : T :=
  match τ dst, x with
  | some ⟨.int k, _, _, _, _⟩, .int _ n => match n with
    | .lit n => .evI (k.wrap n) fun r => K (.int k (.lit r))
    | .sym n => .int (fun _ => k.wrap n) fun r => K (.int k r)
  | some ⟨.string, _, _, _, _⟩, .int _ n => match n with
    | .lit n => .evS (Utf8.encode n).data.toList fun r => K (.str (.lit r))
    | .sym n => .str (fun _ => (Utf8.encode n).data.toList) fun r => K (.str r)
  | some ⟨.string, _, _, _, _⟩, .str s => K (.str s)
  | _, _ => .fail

def lenT (t : Nat) (x : AV) (K : AV → T) : T :=
  match x with
  | .str s => if isK τ t TK.isStr then s.len fun n => K (.int .i64 (intN n)) else .fail
  | .nil | .empty => if isK τ t TK.isSlice then K (.int .i64 (.lit 0)) else .fail
  | .list n _ _ => if isK τ t TK.isSlice then K (.int .i64 (intN n)) else .fail
  | .seq n _ => if isK τ t TK.isSlice then K (.int .i64 (intN n)) else .fail
  | .own _ _ n _ _ => if isK τ t TK.isSlice then K (.int .i64 (intN n)) else .fail
  | .acc _ n _ => if isK τ t TK.isSlice then K (.int .i64 (intN n)) else .fail
  | .buf _ n _ => if isK τ t TK.isSlice then K (.int .i64 (intN n)) else .fail
  | _ => .fail

def minmax (mx : Bool) (a b : Int) : Int := if mx then (if b > a then b else a) else (if b < a then b else a)
def minmaxT (mx : Bool) : AV → List AV → (AV → T) → T
  | x, [], K => K x
  | .int k a, .int k' b :: l, K => match a, b with
    | .lit a, .lit b => .evI (minmax mx a b) fun r => minmaxT mx (.int k (.lit r)) l K
    | a, b => .int (fun _ => minmax mx a.v b.v) fun r => minmaxT mx (.int k r) l K
  | _, _, _ => .fail

/-- The cells and the number of elements of what is appended, copied or made a string of. -/
def srcT (h : Heap) (sz : Nat) (x : AV) (K : N → L → T) : T :=
  match x with
  | .nil | .empty => K (.lit 0) ⟨true, []⟩
  | .list n lit cells => mulN n sz fun m => sizeL ⟨lit, cells⟩ m fun _ => K n ⟨lit, cells⟩
  | .seq n cells => mulN n sz fun m => sizeL ⟨false, cells⟩ m fun _ => K n ⟨false, cells⟩
  | .own id off n _ z => if z = sz then heapT h id fun b => mulN n sz fun m => subL b.cells off m fun l => K n l else .fail
  | .acc id n z => if z = sz then heapT h id fun b => mulN n sz fun m => sizeL b.cells m fun _ => K n b.cells else .fail
  | .str s => if sz = 1 then s.len fun n => byteL s fun l => K n l else .fail
  | _ => .fail

/-- A type whose values have cells. -/
def isFull (t : Nat) : Bool :=
  match τ t with
  | some ti => ti.size != 0
  | none => false

/-- An operation that leaves the memory as it is. -/
def valT (o : Oper) (s : St) (K : AV → T) : T :=
  match o.op with
  | .move x | .assign x => match s.ev G x with | some v => K v | none => .fail
  | .pick c a b => match s.ev G c with
    | some (.bool r) => .cmp (fun _ => r) fun r => match r with
      | true => match s.ev G a with | some v => K v | none => .fail
      | false => match s.ev G b with | some v => K v | none => .fail
    | _ => .fail
  | .load t x => match s.ev G x with | some v => loadT τ s.heap t v K | none => .fail
  | .nilCheck x => match s.ev G x with
    | some (.ptr id off) => K (.ptr id off)
    | some (.ref b c off) => K (.ref b c off)
    | some (.func f a b) => K (.func f a b)
    | _ => .fail
  | .binOp op t x y _ => match s.ev G x, s.ev G y with | some a, some b => binT τ t op a b K | _, _ => .fail
  | .unOp op _ x => match s.ev G x with | some a => unT op a K | none => .fail
  | .convert src dst x => match s.ev G x with
    | some (.list n lit c) => if isBytes τ src && isK τ dst TK.isStr then srcT s.heap 1 (.list n lit c) fun _ l => .bytes l.v fun r => K (.str r) else .fail
    | some (.seq n c) => if isBytes τ src && isK τ dst TK.isStr then srcT s.heap 1 (.seq n c) fun _ l => .bytes l.v fun r => K (.str r) else .fail
    | some (.own a b c d e) => if isBytes τ src && isK τ dst TK.isStr then srcT s.heap 1 (.own a b c d e) fun _ l => .bytes l.v fun r => K (.str r) else .fail
    | some (.acc a b c) => if isBytes τ src && isK τ dst TK.isStr then srcT s.heap 1 (.acc a b c) fun _ l => .bytes l.v fun r => K (.str r) else .fail
    | some .nil => if isBytes τ src && isK τ dst TK.isStr then K (.str (.lit [])) else .fail
    | some .empty => if isBytes τ src && isK τ dst TK.isStr then K (.str (.lit [])) else .fail
    | some a => if isK τ src TK.isAny then convT τ dst a K else .fail
    | none => .fail
  | .makeFunc (.func f) first captured => match s.evs G first.toList, s.evs G captured.toList with
    | some a, some b => K (.func f a b)
    | _, _ => .fail
  | .slice t x lo hi none => match s.ev G x, ints [lo.bind (s.ev G), hi.bind (s.ev G)] with
    | some v, some [l, h] => if lo.isSome = l.isSome ∧ hi.isSome = h.isSome then sliceH τ s.heap t v l h K else .fail
    | _, _ => .fail
  | .slice t x lo (some hi) (some mx) => match s.ev G x, ints [lo.bind (s.ev G)], s.ev G hi, s.ev G mx with
    | some v, some [l], some (.int _ h), some (.int _ m) => if lo.isSome = l.isSome then slice0T τ t v l h m K else .fail
    | _, _, _, _ => .fail
  | .fieldAddr t x f => match s.ev G x, fieldAt τ t f with
    | some (.ptr id off), some (fo, ft) => if isFull τ ft then addN off (.lit fo) fun o => K (.ptr id o) else .fail
    | some (.ref b c off), some (fo, ft) => if isFull τ ft then addN off (.lit fo) fun o => K (.ref b c o) else .fail
    | _, _ => .fail
  | .field t x f => match s.ev G x, fieldAt τ t f with
    | some (.agg b cs), some (fo, ft) => partT τ ft ⟨b, cs⟩ (.lit fo) K
    | _, _ => .fail
  | .indexAddr t x i => match s.ev G x, s.ev G i with | some v, some (.int _ j) => indexAddrT τ s.heap t v j K | _, _ => .fail
  | .index t x i => match s.ev G x, s.ev G i with | some v, some (.int _ j) => indexT τ t v j K | _, _ => .fail
  | .extract x i => match s.ev G x with
    | some (.tuple vs) => match vs[i]? with | some v => K v | none => .fail
    | _ => .fail
  | .build t ps => match s.parts G ps.toList with | some l => buildT τ t l K | none => .fail
  | .makeInterface t x => match s.ev G x with | some v => if isK τ t TK.isAny && !isK τ t TK.isIface then K (.iface t v) else .fail | none => .fail
  | .call { callee := .builtin .len, args := args, argTypes := ts } => match s.evs G args.toList, ts.toList with | some [x], t :: _ => lenT τ t x K | _, _ => .fail
  | .call { callee := .builtin .max, args := args, .. } => match s.evs G args.toList with | some (x :: l) => minmaxT true x l K | _ => .fail
  | .call { callee := .builtin .min, args := args, .. } => match s.evs G args.toList with | some (x :: l) => minmaxT false x l K | _ => .fail
  | _ => .fail

def updH (h : Heap) (id : Nat) (b : Option Blk) : Heap :=
  match h with
  | [] => []
  | (k, c) :: l => if k = id then (k, b) :: l else (k, c) :: updH l id b

/-- What an operation does: the new blocks, the value that it puts. -/
def St.new (s : St) (d : Option Nat) (x : AV) (b : L) : St := { s with heap := (s.next, some ⟨b, false⟩) :: s.heap, next := s.next + 1 }.put d x

def newSlice (s : St) (d : Option Nat) (n : N) (cap : Option N) (sz : Nat) (cells : L) (K : St → T) : T :=
  K (s.new d (.own s.next (.lit 0) n cap sz) cells)

def roomN (n : N) (bytes : Nat) (K : Unit → T) : T :=
  match n with
  | .lit n => if n * bytes ≤ 140737488355328 then K () else .fail
  | .sym n => .req (fun _ => decide (n * bytes ≤ 140737488355328)) K

/-- 'append'. -/
def appendT (s : St) (d : Option Nat) (et sz bytes : Nat) (x : AV) (n : N) (new : L) (K : St → T) : T :=
  match x with
  | .nil => match n with
    | .lit 0 => K (s.put d .nil)
    | .lit n => roomN (.lit n) bytes fun _ => newSlice s d (.lit n) none sz new K
    | .sym n => roomN (.sym n) bytes fun _ => K (s.new d (.acc s.next (.sym n) sz) new)
  | .empty => match n with
    | .lit 0 => K (s.put d .empty)
    | .lit n => roomN (.lit n) bytes fun _ => newSlice s d (.lit n) none sz new K
    | .sym n => .cmp (fun _ => n == 0) fun b => if b then K (s.put d .empty) else roomN (.sym n) bytes fun _ => newSlice s d (.sym n) none sz new K
  | .own id off len cap z => if z ≠ sz then .fail else heapT s.heap id fun b =>
    if b.shut then .fail else
    match cap with
    | some c => addN len n fun m =>
      let yes := fun _ : Unit => mulN len sz fun p => addN off p fun p => mulN n sz fun q => writeL b.cells p q new fun w =>
          .evH (updH s.heap id (some ⟨w, false⟩)) fun h => K ({ s with heap := h }.put d (.own id off m (some c) sz))
      let no := fun _ : Unit => roomN m bytes fun _ => mulN len sz fun p => subL b.cells off p fun old => appL old new fun r => newSlice s d m none sz r K
      match m, c with
      | .lit m, .lit c => if m ≤ c then yes () else no ()
      | m, c => .cmp (fun _ => decide (m.v ≤ c.v)) fun r => if r then yes () else no ()
    | none => eqN off (.lit 0) fun _ => mulN len sz fun p => sizeL b.cells p fun _ => addN len n fun m => roomN m bytes fun _ => appL b.cells new fun r =>
        .evH (updH s.heap id none) fun h => newSlice { s with heap := h } d m none sz r K
  | .acc id len z => if z ≠ sz then .fail else heapT s.heap id fun b =>
    if b.shut then .fail else
    mulN len sz fun p => sizeL b.cells p fun _ => addN len n fun m => roomN m bytes fun _ => appL b.cells new fun r =>
      .evH (updH s.heap id none) fun h => match n with
        | .lit (n + 1) => newSlice { s with heap := h } d m none sz r K
        | _ => K ({ s with heap := h }.new d (.acc s.next m sz) r)
  | .buf id len ty => if 1 ≠ sz then .fail else if ty ≠ et then .fail else heapT s.heap id fun b =>
    if b.shut then .fail else
    mulN len sz fun p => sizeL b.cells p fun _ => addN len n fun m => roomN m bytes fun _ => appL b.cells new fun r =>
      .evH (updH s.heap id none) fun h => K ({ s with heap := h }.new d (.buf s.next m ty) r)
  | _ => .fail

/-- An operation that makes a new block: what it puts, and the cells. -/
def newT (o : Oper) (s : St) (K : AV → L → T) : T :=
  match o.op with
  | .box _ x => match s.ev G x with | some v => cellsT v fun w => K (.ptr s.next (.lit 0)) w | none => .fail
  | .alloc t => match τ t with | some ti => K (.ptr s.next (.lit 0)) ⟨true, ti.zero⟩ | none => .fail
  | .buildSlice t len ps => match elemOf τ t, s.parts G ps.toList with
    | some (_, e), some l => if len * e.size > 16777216 then .fail else fillT (fun i => some (i * e.size, e.size)) l ⟨true, listC len e.zero⟩ fun cells => K (.own s.next (.lit 0) (.lit len) (some (.lit len)) e.size) cells
    | _, _ => .fail
  | .makeSlice t l c => match elemOf τ t, s.ev G l, s.ev G c with
    | some (_, e), some (.int _ l), some (.int _ c) => leI c (.lit 9223372036854775807) fun _ => natI c fun c => leI l c fun _ => natI l fun l => roomN c e.bytes fun _ =>
      repL c e.zero fun cells => K (.own s.next (.lit 0) l (some c) e.size) cells
    | _, _, _ => .fail
  | .convert src dst x => match s.ev G x with
    | some (.str b) => if !(isBytes τ dst && isK τ src TK.isAny) then .fail else b.len fun n => byteL b fun l => K (.own s.next (.lit 0) n none 1) l
    | _ => .fail
  | _ => .fail

/-- Does an operation make a new block, and nothing else? -/
def isNew (o : Oper) : Bool :=
  match o.op with
  | .box .. | .alloc .. | .buildSlice .. | .makeSlice .. | .convert .. => true
  | _ => false

/-- A type of two cells whose first one may hold the address of the value itself, and whose second one is a slice. -/
def selfT (t : Nat) : Option Nat :=
  match τ t with
  | some ti => match ti.kind, ti.zero with
    | .struct [_, (1, st)], [.nilptr, .nil] => match elemOf τ st, decide (ti.size = 2) with
      | some (et, e), true => if e.size = 1 then some et else none
      | _, _ => none
    | _, _ => none
  | none => none
def isSelf (o : Oper) : Option (Nat × Nat) :=
  match o.op with
  | .alloc t => (selfT τ t).map (t, ·)
  | _ => none
/-- An operation that makes memory or writes. -/
def effT (o : Oper) (s : St) (K : St → T) : T :=
  match isSelf τ o with
  | some (t, et) => K ({ s with heap := (s.next + 1, some ⟨⟨true, []⟩, false⟩) :: (s.next, some ⟨⟨true, [.apt s.next t, .buf (s.next + 1) (.lit 0) et]⟩, false⟩) :: s.heap, next := s.next + 2 }.put o.dst (.ptr s.next (.lit 0)))
  | none =>
  if isNew o then newT τ G o s fun x l => K (s.new o.dst x l) else
  match o.op with
  | .call { callee := .value f, args := args, .. } => match s.ev G f, s.evs G args.toList with
    | some (.func f first captured), some vs => .call f (first ++ vs ++ captured) s.heap s.next fun v h n => K ({ s with heap := h, next := n }.put o.dst v)
    | _, _ => .fail
  | .store t a x => if o.dst.isSome then .fail else match s.ev G a, s.ev G x, τ t with
    | some (.ptr id off), some v, some ti => heapT s.heap id fun b => if b.shut then .fail else
      cellsT v fun m => writeL b.cells off (.lit ti.size) m fun w => .evH (updH s.heap id (some ⟨w, false⟩)) fun h => K { s with heap := h }
    | _, _, _ => .fail
  | .call { callee := .builtin .append, args := args, argTypes := ts } => match s.evs G args.toList, ts.toList with
    | some [x, y], [t, u] => match elemOf τ t with
      | some (et, e) => if (isK τ u TK.isSlice || isK τ u TK.isStr) && e.size != 0 && e.bytes != 0 then srcT s.heap e.size y fun n new => appendT s o.dst et e.size e.bytes x n new K else .fail
      | none => .fail
    | _, _ => .fail
  | _ => .fail

/-- Is it an operation that makes memory or writes? -/
def isEff (o : Oper) : Bool :=
  match o.op with
  | .box .. | .alloc .. | .buildSlice .. | .makeSlice .. | .store .. => true
  | .call { callee := .value _, .. } | .call { callee := .builtin .append, .. } => true
  | .convert _ dst _ => match τ dst with | some ⟨.slice _, _, _, _, _⟩ => true | _ => false
  | _ => false

def opT (o : Oper) (s : St) (K : St → T) : T :=
  if isEff τ o then effT τ G o s K else valT τ G o s fun v => K (s.put o.dst v)

/-- An operation that only makes memory, or none: its value, and the cells of a new block. -/
def dagT (o : Oper) (s : St) (K : AV → Option L → T) : T :=
  if isEff τ o then
    if (isSelf τ o).isSome then .fail else
    if isNew o then newT τ G o s fun x l => K x (some l) else
    match o.op with
    | .call { callee := .value f, args := args, .. } => match s.ev G f, s.evs G args.toList with
      | some (.func f first captured), some vs => .fcall f (first ++ vs ++ captured) s.heap fun v => K v none
      | _, _ => .fail
    | _ => .fail
  else valT τ G o s fun v => K v none

def guardT (ops : List Oper) (o : Oper) (s : St) : Option Bool :=
  match o.guard with
  | none => some true
  | some (j, want) => match ops[j]? with
    | some oj => match oj.dst with
      | some d => match look s.tmps d with
        | some (.bool b) => some (b == want)
        | some (.tuple []) => some false
        | _ => none
      | none => none
    | none => none

/-- Is the operation wanted? What is known of the test is known from then on. -/
def ifGuard (all : List Oper) (o : Oper) (s : St) (yes no : St → T) : T :=
  match o.guard with
  | none => yes s
  | some (j, want) => match all[j]? with
    | some oj => match oj.dst with
      | some d => match look s.tmps d with
        | some (.bool b) => .cmp (fun _ => b) fun r => match r with
          | true => if want then yes (s.put (some d) (.bool true)) else no (s.put (some d) (.bool true))
          | false => if want then no (s.put (some d) (.bool false)) else yes (s.put (some d) (.bool false))
        | some (.tuple []) => no s
        | _ => .fail
      | none => .fail
    | none => .fail

def dstOk (o : Oper) (s : St) : Bool :=
  match o.dst with
  | some d => decide (d < s.nt)
  | none => true

def opsT (all : List Oper) : List Oper → St → (St → T) → T
  | [], s, K => K s
  | o :: l, s, K => if dstOk o s then ifGuard all o s (fun s => opT τ G o s fun s => opsT all l s K) (fun s => opsT all l (s.put o.dst (.tuple [])) K) else .fail

/-! Operations in any order. -/
/-- What an operation looks at. -/
def looksT (all : List Oper) (o : Oper) : List Nat :=
  (o.op.operands.toList.filterMap fun | .tmp t => some t | _ => none) ++
  (match o.guard with
   | some (g, _) => ((all[g]?).bind (·.dst)).toList
   | none => [])
def keepT (ts : List Nat) : List (Nat × AV) → List (Nat × AV)
  | [] => []
  | (k, v) :: l => if ts.contains k then (k, v) :: keepT ts l else keepT ts l
def bindsT (e : Edge) : Bool :=
  match e.ground with
  | .textOnly _ | .gcOnly _ => false
  | _ => true
/-- What comes before an operation, and the like for each operation before it. -/
def reachOf (acc : List (List Nat)) : List Edge → List Nat
  | [] => []
  | e :: l => if bindsT e then e.on :: (acc.getD e.on [] ++ reachOf acc l) else reachOf acc l
def reaches : List Oper → List (List Nat) → List (List Nat)
  | [], acc => acc
  | o :: l, acc => reaches l (acc ++ [reachOf acc o.after.toList])
/-- Edges lead back. -/
def backB : Nat → List Oper → Bool
  | _, [] => true
  | i, o :: l => o.after.toList.all (fun e => !bindsT e || decide (e.on < i)) && backB (i + 1) l
/-- The operations from i on each wait for all before them. -/
def chainB (rs : List (List Nat)) : Nat → Nat → Bool
  | _, 0 => true
  | i, n + 1 => (List.range i).all (fun j => (rs.getD i []).contains j) && chainB rs (i + 1) n
/-- Two operations: one of them looks at what the other one puts only if one waits for the other. -/
def pairB (all : List Oper) (rs : List (List Nat)) (i j : Nat) (oi oj : Oper) : Bool :=
  match oj.dst with
  | none => true
  | some d => (i == j || oi.dst != some d) && (!(looksT all oi).contains d || i == j || (rs.getD i []).contains j || (rs.getD j []).contains i)
def pairsB (all : List Oper) (rs : List (List Nat)) (l : List Oper) : Bool :=
  (List.range l.length).all fun i => (List.range l.length).all fun j =>
    match l[i]?, l[j]? with
    | some oi, some oj => pairB all rs i j oi oj
    | _, _ => true
/-- The first operation that everything behind waits for. -/
def cutOf (rs : List (List Nat)) (n : Nat) : Nat → Nat
  | 0 => 0
  | m + 1 => if (List.range m).all (fun j => (rs.getD m []).contains j) then cutOf rs n m else m + 1
def drawOk (all : List Oper) (m : Nat) : Bool :=
  let rs := reaches all []
  backB 0 all && chainB rs m (all.length - m) && pairsB all rs (all.take m) && decide (m ≤ all.length)
def cut (all : List Oper) : Nat := cutOf (reaches all []) all.length all.length

def opsD (all : List Oper) : List Oper → St → (St → T) → T
  | [], s, K => K s
  | o :: l, s, K => if dstOk o s then ifGuard all o s
    (fun _ => dagT τ G o { s with tmps := keepT (looksT all o) s.tmps } fun x b => match b with
      | none => opsD all l (s.put o.dst x) K
      | some c => opsD all l (s.new o.dst x c) K)
    (fun _ => opsD all l (s.put o.dst (.tuple [])) K)
    else .fail
def drawT (all : List Oper) (s : St) (K : St → T) : T :=
  if drawOk all (cut all) then opsD τ G all (all.take (cut all)) s fun s => opsT τ G all (all.drop (cut all)) s K else .fail

/-- A test that came out. -/
def St.know (s : St) (c : Operand) (r : Bool) : St :=
  match c with
  | .tmp t => s.put (some t) (.bool r)
  | _ => s
/-- Operations that leave the memory as it is, of which one test is wanted. -/
def dstsT : List Oper → List Nat
  | [] => []
  | o :: l => match o.dst with
    | some d => d :: dstsT l
    | none => dstsT l
def dropT (ts : List Nat) : List (Nat × AV) → List (Nat × AV)
  | [] => []
  | (k, v) :: l => if ts.contains k then dropT ts l else (k, v) :: dropT ts l
def pureB (ops : List Oper) : Bool := ops.all fun o => !isEff τ o
def boolT (ops : List Oper) (d : Nat) (st : St) (K : St → T) : T :=
  if pureB τ ops && decide (d < st.nt) then .join (opsT τ G ops ops st (.done .normal)) d fun b => K { st with tmps := (d, .bool b) :: dropT (dstsT ops) st.tmps } else .fail

/-- The first region of a piece of code. -/
def firstId : Code → Nat
  | .region id _ _ => id
  | .seq a _ => firstId a
  | .cond _ a b => match firstId a with
    | 0 => firstId b
    | n + 1 => n + 1
  | .block _ c => firstId c
  | .loop c => firstId c
  | .scope c => firstId c
  | _ => 0
/-- What is said of a piece of code: tests of regions; places where ways are joined; the slots that are looked at behind a region. -/
structure Jd where
  J : List (Nat × Nat)
  C : List Nat
  L : List (Nat × List Nat)

/-- Is it a place where ways are joined? -/
def isCut (J : Jd) (c : Code) : Bool :=
  match c with
  | .cond _ _ _ => J.C.any (Nat.beq (firstId c))
  | _ => false
def keepK (J : Jd) (id : Nat) (st : St) (K : St → T) : T :=
  match look J.L id with
  | none => K st
  | some ls => .evM { st with tmps := keepT ls st.tmps } K
variable (J : Jd)
def runT : Code → St → (Ex → St → T) → T
  | .skip, st, k => k .normal st
  | .region id ops false, st, k => match look J.J id with
    | some d => boolT τ G ops.toList d st fun st => keepK J id st (k .normal)
    | none => opsT τ G ops.toList ops.toList st fun st => keepK J id st (k .normal)
  | .region _ ops true, st, k => drawT τ G ops.toList st (k .normal)
  | .seq a b, st, k => match isCut J a with
    | true => .cut a st fun e st' => match e with | .normal => runT b st' k | e => k e st'
    | false => runT a st fun e st' => match e with | .normal => runT b st' k | e => k e st'
  | .cond c a b, st, k => match st.ev G c with
    | some (.bool r) => .cmp (fun _ => r) fun r => match r with
      | true => runT a (st.know c true) k
      | false => runT b (st.know c false) k
    | _ => .fail
  | .block id c, st, k => runT c st fun e st' => match e with | .exit i => if i = id then k .normal st' else k e st' | e => k e st'
  | .loop c, st, k => .loop c st k
  | .scope c, st, k => runT c st k
  | .label _, st, k => k .normal st
  | .exit id, st, k => k (.exit id) st
  | .ret, st, k => k .ret st
  | _, _, _ => .fail

def resT (s : St) : List ResultVar → (List AV → T) → T
  | [], K => K []
  | .tmp t :: l, K => match look s.tmps t with
    | some v => resT s l fun vs => K (v :: vs)
    | none => .fail
  | .cell a t :: l, K => match look s.tmps a with
    | some x => loadT τ s.heap t x fun v => resT s l fun vs => K (v :: vs)
    | none => .fail

def tup : List AV → AV
  | [v] => v
  | vs => .tuple vs

def numbered : Nat → List AV → List (Nat × AV)
  | _, [] => []
  | i, v :: l => (i, v) :: numbered (i + 1) l

/-- A function's body, from its arguments to its result. -/
def bodyT (c : Code) (nt : Nat) (res : List ResultVar) (args : List AV) (h : Heap) (n : Nat) : T :=
  runT τ G J c ⟨nt, numbered 0 args, h, n⟩ fun e st => match e with
    | .exit _ => .fail
    | _ => resT τ st res fun vs => .done .ret ⟨1, [(0, tup vs)], st.heap, st.next⟩
end

/-- What a result must be. -/
def resQ (Q : AV → Heap → Nat → Prop) (_ : Ex) (st : St) : Prop :=
  match st.tmps with
  | [(_, x)] => Q x st.heap st.next
  | _ => False
end Go.Ax
