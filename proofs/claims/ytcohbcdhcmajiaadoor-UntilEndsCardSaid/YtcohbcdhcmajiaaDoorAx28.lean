/-
  The small abstract machine: arguments of plain data, as they are read.
-/
import Derived.Test.YtcohbcdhcmajiaaDoorAx27
import Derived.ChangeShapes
import Derived.WideShapes
import Derived.RowKit
import Derived.ChangeMaps5
namespace Go.Ax
open Go.RowKit Go.ChangeShapes Go.WideShapes
set_option linter.unusedVariables false

/-- The fields of a struct, one behind another, without gaps. -/
def tkFields (f : Nat → Option (List TK)) : List (Nat × Nat) → Nat → Option (List TK)
  | [], _ => some []
  | (o, t) :: fs, n => if o = n then match f t with
    | some l => (tkFields f fs (n + l.length)).map (l ++ ·)
    | none => none
    else none
/-- The kinds of the cells of a type of plain data. -/
def tks (τ : Tys) : Nat → Nat → Option (List TK)
  | 0, _ => none
  | n + 1, t => match τ t with
    | none => none
    | some ti => match ti.kind with
      | .int k => if ti.size = 1 then some [.int k] else none
      | .bool => if ti.size = 1 then some [.bool] else none
      | .string => if ti.size = 1 then some [.string] else none
      | .slice e => if ti.size = 1 then some [.slice e] else none
      | .array m e => match tks τ n e with
        | some l => if ti.size = m * l.length then some (List.replicate m l).flatten else none
        | none => none
      | .struct fs => match tkFields (tks τ n) fs 0 with
        | some l => if ti.size = l.length then some l else none
        | none => none
      | _ => none

/-- Rows of rows are of plain data too. -/
def tkOk (τ : Tys) : Nat → TK → Bool
  | n + 1, .slice e => match tks τ 12 e with
    | some l => decide (0 < l.length) && l.all (tkOk τ n)
    | none => false
  | _, .int _ | _, .bool | _, .string => true
  | _, _ => false
def TkOk (τ : Tys) (l : List TK) : Prop := ∀ tk ∈ l, ∃ n, tkOk τ n tk = true
theorem TkOk.slice {τ : Tys} {e : Nat} (h : TkOk τ [.slice e]) : ∃ l, tks τ 12 e = some l ∧ 0 < l.length ∧ TkOk τ l := by
  obtain ⟨n, hn⟩ := h _ (List.mem_singleton.2 rfl)
  cases n with
  | zero => simp [tkOk] at hn
  | succ n =>
    unfold tkOk at hn
    split at hn
    · rename_i l hl
      simp only [Bool.and_eq_true, decide_eq_true_eq] at hn
      exact ⟨l, hl, hn.1, fun tk h => ⟨n, List.all_eq_true.1 hn.2 tk h⟩⟩
    · cases hn
theorem TkOk.of_all {τ : Tys} {l : List TK} (n : Nat) (h : l.all (tkOk τ n) = true) : TkOk τ l := fun tk q => ⟨n, List.all_eq_true.1 h tk q⟩

/-- What a cell of a kind may be. -/
inductive CellOk (τ : Tys) : TK → AV → Prop where
  | int {k n} (h : (Lit.int k n).wf = true) : CellOk τ (.int k) (.int k (.sym n))
  | bool {b} : CellOk τ .bool (.bool b)
  | str {s : List UInt8} (h : s.length ≤ maxLen) : CellOk τ .string (.str (.sym s))
  | slice {e n l cells} (he : tks τ 12 e = some l) (hp : 0 < l.length) (hl : cells.length = n * l.length) (hn : n ≤ maxLen)
      (h : ∀ (i : Nat) (x : AV) (tk : TK), cells[i]? = some x → l[i % l.length]? = some tk → CellOk τ tk x) : CellOk τ (.slice e) (.seq (.sym n) cells)

structure Reads (τ : Tys) (Sh : Nat → Prop) (W : World) (as : List AV) (cs : List Value) (l : List TK) : Prop where
  al : as.length = l.length
  cl : cs.length = l.length
  vr : ∀ (i : Nat) (x : AV) (v : Value), as[i]? = some x → cs[i]? = some v → VR Sh W (fun _ => none) x v
  one : ∀ v ∈ cs, v.oneCell' = true
  ok : ∀ (i : Nat) (x : AV) (tk : TK), as[i]? = some x → l[i]? = some tk → CellOk τ tk x

section
variable {H : Type} {enc : TypeId × Value → H} {P : Program} {τ : Tys} {Sh : Nat → Prop} {W : World} {hd : Bool}

theorem Reads.nil : Reads τ Sh W [] [] [] := ⟨rfl, rfl, fun i x v h => by simp at h, fun v h => by simp at h, fun i x v h => by simp at h⟩
theorem Reads.one' {x : AV} {v : Value} {tk : TK} (h : VR Sh W (fun _ => none) x v) (h1 : v.oneCell' = true) (hk : CellOk τ tk x) : Reads τ Sh W [x] [v] [tk] :=
  ⟨rfl, rfl, fun i y u p q => by
    cases i with
    | zero => simp at p q; subst p; subst q; exact h
    | succ i => simp at p, fun u hu => by simp at hu; subst hu; exact h1, fun i y u p q => by
    cases i with
    | zero => simp at p q; subst p; subst q; exact hk
    | succ i => simp at p⟩
theorem Reads.append {as bs : List AV} {cs ds : List Value} {l m : List TK} (h : Reads τ Sh W as cs l) (k : Reads τ Sh W bs ds m) : Reads τ Sh W (as ++ bs) (cs ++ ds) (l ++ m) := by
  refine ⟨by simp [h.al, k.al], by simp [h.cl, k.cl], fun i x v p q => ?_, fun v hv => ?_, fun i x v p q => ?_⟩
  · rcases Nat.lt_or_ge i as.length with hi | hi
    · rw [List.getElem?_append_left hi] at p
      rw [List.getElem?_append_left (by rw [h.cl, ← h.al]; exact hi)] at q
      exact h.vr i x v p q
    · rw [List.getElem?_append_right hi] at p
      rw [List.getElem?_append_right (by rw [h.cl, ← h.al]; exact hi), h.cl, ← h.al] at q
      exact k.vr _ x v p q
  · rcases List.mem_append.1 hv with hv | hv
    · exact h.one v hv
    · exact k.one v hv
  · rcases Nat.lt_or_ge i as.length with hi | hi
    · rw [List.getElem?_append_left hi] at p
      rw [List.getElem?_append_left (by rw [← h.al]; exact hi)] at q
      exact h.ok i x v p q
    · rw [List.getElem?_append_right hi] at p
      rw [List.getElem?_append_right (by rw [← h.al]; exact hi), ← h.al] at q
      exact k.ok _ x v p q

theorem mapM_some {α β : Type} {f : α → Option β} : ∀ {l : List α} {r : List β}, l.mapM f = some r → ∀ (i : Nat) (x : α), l[i]? = some x → ∃ y, f x = some y
  | [], r, h, i, x, q => by simp at q
  | a :: l, r, h, i, x, q => by
    rw [List.mapM_cons] at h
    cases ha : f a with
    | none => rw [ha] at h; cases h
    | some b =>
      rw [ha] at h
      cases i with
      | zero => simp at q; subst q; exact ⟨b, ha⟩
      | succ i =>
        cases hl : l.mapM f with
        | none => rw [hl] at h; cases h
        | some s => exact mapM_some hl i x (by simpa using q)

theorem cellsOf_eq (hτ : ∀ t ti, τ t = some ti → TIok P t ti) {t : Nat} {ti : TI} (h : τ t = some ti) : P.cellsOf t = ti.size ∧ ∃ d, P.underlying t = some d ∧ kindOk ti.kind d := by
  obtain ⟨i, z, d, h1, h2, h3, h4, h5, h6, h7⟩ := (hτ t ti h).ex
  refine ⟨?_, d, h2, h6⟩
  unfold Program.cellsOf
  rw [h1]; exact h3

theorem tks_size {t : Nat} : ∀ {n : Nat} {l : List TK}, tks τ n t = some l → ∃ ti, τ t = some ti ∧ ti.size = l.length
  | 0, l, h => by cases h
  | n + 1, l, h => by
    unfold tks at h
    split at h
    · cases h
    · rename_i ti hti
      refine ⟨ti, hti, ?_⟩
      split at h
      · split at h
        · rename_i e; cases h; exact e
        · cases h
      · split at h
        · rename_i e; cases h; exact e
        · cases h
      · split at h
        · rename_i e; cases h; exact e
        · cases h
      · split at h
        · rename_i e; cases h; exact e
        · cases h
      · split at h
        · split at h
          · rename_i e
            cases h
            rw [e]; simp
          · cases h
        · cases h
      · split at h
        · split at h
          · rename_i e; cases h; exact e
          · cases h
        · cases h
      · cases h

theorem cells?_at {base n : Nat} {a : Addr} {cs : List Value} (h : W.cells? base a n = some cs) : cs.length = n ∧ ∀ (i : Nat) (v : Value), cs[i]? = some v → W.cell? (a.add i) = some v := by
  unfold World.cells? at h
  split at h
  · have key : ∀ (l : List Nat) (r : List Value), (l.mapM fun i => W.cell? (a.add i)) = some r → r.length = l.length ∧ ∀ (i : Nat) (k : Nat) (v : Value), l[i]? = some k → r[i]? = some v → W.cell? (a.add k) = some v := by
      intro l
      induction l with
      | nil => intro r h; simp at h; subst h; exact ⟨rfl, fun i k v q => by simp at q⟩
      | cons x l ih =>
        intro r h
        rw [List.mapM_cons] at h
        cases hx : W.cell? (a.add x) with
        | none => rw [hx] at h; cases h
        | some b =>
          cases hl : (l.mapM fun i => W.cell? (a.add i)) with
          | none => rw [hx, hl] at h; cases h
          | some s =>
            rw [hx, hl] at h
            cases h
            obtain ⟨h1, h2⟩ := ih s hl
            refine ⟨by simp [h1], fun i k v p q => ?_⟩
            cases i with
            | zero => simp at p q; subst p; subst q; exact hx
            | succ i => exact h2 i k v (by simpa using p) (by simpa using q)
    obtain ⟨h1, h2⟩ := key _ _ h
    refine ⟨by simpa using h1, fun i v q => h2 i i v ?_ q⟩
    have hi := (List.getElem?_eq_some_iff.1 q).1
    rw [h1] at hi
    rw [List.getElem?_range (by simpa using hi)]
  · cases h

theorem cell_spot {a : Addr} {v : Value} (h : W.cell? a = some v) : a.spot = none ∧ a.block < W.heap.size := by
  unfold World.cell? at h
  split at h
  · rename_i hb
    split at h
    · cases h
    · rename_i hs
      refine ⟨?_, (Array.getElem?_eq_some_iff.1 hb).1⟩
      cases h' : a.spot with
      | none => rfl
      | some x => rw [h'] at hs; simp at hs
  · cases h

/-- Rows of the like, one behind another. -/
theorem reads_rows {l : List TK} {f : Nat → List AV} {g : Nat → List Value} : ∀ (n : Nat), (∀ i, i < n → Reads τ Sh W (f i) (g i) l) →
    Reads τ Sh W ((List.range n).flatMap f) ((List.range n).flatMap g) (List.replicate n l).flatten
  | 0, _ => .nil
  | n + 1, h => by
    have ih := reads_rows n fun i hi => h i (by omega)
    have hr : List.replicate (n + 1) l = List.replicate n l ++ [l] := by rw [List.replicate_succ']
    rw [List.range_succ, hr]
    simp only [List.flatMap_append, List.flatten_append]
    have := ih.append (h n (by omega))
    simpa using this

theorem drop_take_rows {α : Type} (k : Nat) : ∀ (n : Nat) (cs : List α), cs.length = n * k → (List.range n).flatMap (fun i => (cs.drop (i * k)).take k) = cs
  | 0, cs, h => by
    have : cs = [] := List.length_eq_zero_iff.1 (by rw [h]; omega)
    simp [this]
  | n + 1, cs, h => by
    have ih := drop_take_rows k n (cs.take (n * k)) (by rw [List.length_take, h, Nat.succ_mul]; omega)
    rw [List.range_succ, List.flatMap_append]
    have e : (List.range n).flatMap (fun i => (cs.drop (i * k)).take k) = (List.range n).flatMap (fun i => ((cs.take (n * k)).drop (i * k)).take k) := by
      refine congrArg List.flatten (List.map_congr_left fun i hi => ?_)
      have hi : i < n := by simpa using hi
      have hk : i * k + k ≤ n * k := by
        have := Nat.mul_le_mul_right k (show i + 1 ≤ n from hi)
        rw [Nat.succ_mul] at this; exact this
      rw [List.drop_take, List.take_take]
      congr 1
      omega
    rw [e, ih]
    simp only [List.flatMap_cons, List.flatMap_nil, List.append_nil]
    rw [List.take_of_length_le (l := cs.drop (n * k)) (by rw [List.length_drop, h, Nat.succ_mul]; omega), List.take_append_drop]

theorem reads_fields {f : Nat → Option (List TK)} {fuel : Nat} {cs : List Value} {sp : Nat → Bool} (ih : ∀ t cs x l, DataW.trod enc P W 0 sp hd fuel t cs = some x → f t = some l → TkOk τ l → ∃ as, Reads τ Sh W as cs l) (hc : ∀ t l, f t = some l → P.cellsOf t = l.length) :
    ∀ (fs : List Field) (n : Nat) (l : List TK) (xs : List (DataW H × List MemPlace)), (fs.mapM fun fd => DataW.trod enc P W 0 sp hd fuel fd.type ((cs.drop fd.offset).take (P.cellsOf fd.type))) = some xs →
      tkFields f (fs.map fun fd => (fd.offset, fd.type)) n = some l → TkOk τ l → n + l.length ≤ cs.length → ∃ as, Reads τ Sh W as ((cs.drop n).take l.length) l
  | [], n, l, xs, _, h, _, _ => by cases h; exact ⟨[], by simpa using Reads.nil⟩
  | fd :: fs, n, l, xs, hm, h, hk, hn => by
    simp only [List.map_cons, tkFields] at h
    split at h
    · rename_i e
      split at h
      · rename_i l1 hl1
        cases h2 : tkFields f (fs.map fun fd => (fd.offset, fd.type)) (n + l1.length) with
        | none => rw [h2] at h; cases h
        | some l2 =>
          rw [h2] at h
          cases h
          rw [List.mapM_cons] at hm
          cases hx : DataW.trod enc P W 0 sp hd fuel fd.type ((cs.drop fd.offset).take (P.cellsOf fd.type)) with
          | none => rw [hx] at hm; cases hm
          | some x =>
            cases hl : (fs.mapM fun fd => DataW.trod enc P W 0 sp hd fuel fd.type ((cs.drop fd.offset).take (P.cellsOf fd.type))) with
            | none => rw [hx, hl] at hm; cases hm
            | some ys =>
              rw [List.length_append] at hn
              obtain ⟨bs, hb⟩ := reads_fields ih hc fs (n + l1.length) l2 ys hl h2 (fun tk q => hk tk (List.mem_append.2 (.inr q))) (by omega)
              obtain ⟨as, ha⟩ := ih _ _ _ _ hx hl1 (fun tk q => hk tk (List.mem_append.2 (.inl q)))
              rw [hc _ _ hl1, e] at ha
              refine ⟨as ++ bs, ?_⟩
              have e2 : (cs.drop n).take (l1 ++ l2).length = (cs.drop n).take l1.length ++ (cs.drop (n + l1.length)).take l2.length := by
                rw [List.length_append, List.take_add, List.drop_drop]
              show Reads τ Sh W (as ++ bs) ((cs.drop n).take (l1 ++ l2).length) (l1 ++ l2)
              rw [e2]
              exact ha.append hb
      · cases h
    · cases h

theorem add_add {a : Addr} {i j k : Nat} (h : i + j = k) : (a.add i).add j = a.add k := by
  subst h
  unfold Addr.add
  by_cases hi : i = 0
  · subst hi; simp
  · by_cases hj : j = 0
    · subst hj; simp
    · simp [hi, hj, Nat.add_assoc]
theorem add_none {a : Addr} {i : Nat} (h : a.spot = none) : a.add i = ⟨a.block, a.off + i, none⟩ := by
  cases a with
  | mk b o s =>
    dsimp only at h
    subst h
    unfold Addr.add
    by_cases hi : i = 0
    · subst hi; simp
    · simp [hi]

theorem trod_read (hτ : ∀ t ti, τ t = some ti → TIok P t ti) (hS : ∀ b, b < W.heap.size → Sh b) :
    ∀ (fuel : Nat) (t : Nat) (cs : List Value) (x : DataW H × List MemPlace), DataW.trod enc P W 0 (fun _ => true) hd fuel t cs = some x → ∀ (n : Nat) (l : List TK), tks τ n t = some l → TkOk τ l → ∃ as, Reads τ Sh W as cs l
  | 0, t, cs, x, h, n, l, hl, _ => by cases h
  | fuel + 1, t, cs, x, h, 0, l, hl, _ => by cases hl
  | fuel + 1, t, cs0, x, h, n + 1, l, hl, htk => by
    have ih := trod_read hτ hS fuel
    obtain ⟨ti0, hti0, hsz⟩ := tks_size hl
    obtain ⟨hcell, d, hd1, hd2⟩ := cellsOf_eq hτ hti0
    unfold tks at hl
    rw [hti0] at hl
    dsimp only at hl
    split at hl
    · -- int
      rename_i k hk
      split at hl
      · cases hl
        rw [hk] at hd2
        cases hd2
        obtain ⟨m, rfl, hx, hw⟩ := DataW.trod_int hd1 h
        exact ⟨[.int k (.sym m)], .one' (.int rfl) rfl (.int hw)⟩
      · cases hl
    · -- bool
      rename_i hk
      split at hl
      · cases hl
        rw [hk] at hd2
        cases hd2
        unfold DataW.trod at h
        rw [hd1] at h
        split at h <;> first | (rename_i e; cases e; done) | skip
        all_goals first | (rename_i e1 e2; cases e1; done) | skip
        · exact ⟨[.bool _], .one' .bool rfl .bool⟩
        all_goals cases h
      · cases hl
    · -- string
      rename_i hk
      split at hl
      · cases hl
        rw [hk] at hd2
        cases hd2
        unfold DataW.trod at h
        rw [hd1] at h
        split at h <;> first | (rename_i e; cases e; done) | skip
        all_goals first | (rename_i e1 e2; cases e1; done) | skip
        · rename_i s he
          split at h
          · rename_i hs
            exact ⟨[.str (.sym s.data.toList)], .one' (.str rfl) rfl (.str (by simpa using hs))⟩
          · cases h
        all_goals cases h
      · cases hl
    · -- slice
      rename_i e hk
      split at hl
      · cases hl
        rw [hk] at hd2
        cases hd2
        obtain ⟨l, hl, hpos, htk⟩ := htk.slice
        obtain ⟨te, hte, hse⟩ := tks_size hl
        have hce := (cellsOf_eq hτ hte).1
        rw [hse] at hce
        unfold DataW.trod at h
        rw [hd1] at h
        split at h <;> first | (rename_i e; cases e; done) | skip
        all_goals first | (rename_i e1 e2; cases e1; done) | skip
        · exact ⟨[.seq (.sym 0) []], .one' (.seq (.nil rfl) .nil) rfl (.slice hl hpos (by simp) (Nat.zero_le _) fun i x tk q => by simp at q)⟩
        · rename_i e' a len cap he'
          obtain rfl : e = e' := by cases he'; rfl
          dsimp only at h
          split at h
          · rename_i hb
            obtain ⟨_, hlc, hcm⟩ := hb
            cases h1 : (List.range len).mapM fun i => (W.cells? 0 (a.add (i * P.cellsOf e)) (P.cellsOf e)).bind (DataW.trod enc P W 0 (fun _ => true) hd fuel e) with
            | none => rw [h1] at h; cases h
            | some els =>
              rw [h1] at h
              have h : Option.map _ ((List.range (cap - len)).mapM fun j => (W.cells? 0 (a.add ((len + j) * P.cellsOf e)) (P.cellsOf e)).bind (DataW.trod enc P W 0 (fun _ => true) hd fuel e)) = some x := h
              cases h2 : ((List.range (cap - len)).mapM fun j => (W.cells? 0 (a.add ((len + j) * P.cellsOf e)) (P.cellsOf e)).bind (DataW.trod enc P W 0 (fun _ => true) hd fuel e)) with
              | none => rw [h2] at h; cases h
              | some res =>
                have spot : 0 < cap → a.spot = none ∧ a.block < W.heap.size := by
                  intro hcap
                  have : ∃ cs, W.cells? 0 (a.add (0 * P.cellsOf e)) (P.cellsOf e) = some cs := by
                    rcases Nat.eq_zero_or_pos len with hz | hz
                    · obtain ⟨y, hy⟩ := mapM_some h2 0 0 (by rw [List.getElem?_range (by omega)])
                      rw [hz] at hy
                      cases hq : W.cells? 0 (a.add ((0 + 0) * P.cellsOf e)) (P.cellsOf e) with
                      | none => rw [hq] at hy; cases hy
                      | some cs => exact ⟨_, rfl⟩
                    · obtain ⟨y, hy⟩ := mapM_some h1 0 0 (by rw [List.getElem?_range (by omega)])
                      cases hq : W.cells? 0 (a.add (0 * P.cellsOf e)) (P.cellsOf e) with
                      | none => rw [hq] at hy; cases hy
                      | some cs => exact ⟨_, rfl⟩
                  obtain ⟨cs, hq⟩ := this
                  rw [Nat.zero_mul] at hq
                  obtain ⟨q1, q2⟩ := cells?_at hq
                  have q0 : 0 < cs.length := by rw [q1, hce]; exact hpos
                  have := cell_spot (q2 0 _ (List.getElem?_eq_getElem q0))
                  exact this
                have each : ∀ i, ∃ as cs, i < len → W.cells? 0 (a.add (i * l.length)) l.length = some cs ∧ Reads τ Sh W as cs l := by
                  intro i
                  by_cases hi : i < len
                  · obtain ⟨y, hy⟩ := mapM_some h1 i i (by rw [List.getElem?_range hi])
                    cases hq : W.cells? 0 (a.add (i * P.cellsOf e)) (P.cellsOf e) with
                    | none => rw [hq] at hy; cases hy
                    | some cs =>
                      rw [hq] at hy
                      obtain ⟨as, ha⟩ := ih e cs y hy 12 l hl htk
                      rw [hce] at hq
                      exact ⟨as, cs, fun _ => ⟨hq, ha⟩⟩
                  · exact ⟨[], [], fun q => absurd q hi⟩
                have hf : ∃ (f : Nat → List AV) (g : Nat → List Value), ∀ i, i < len → W.cells? 0 (a.add (i * l.length)) l.length = some (g i) ∧ Reads τ Sh W (f i) (g i) l :=
                  ⟨fun i => Classical.choose (each i), fun i => Classical.choose (Classical.choose_spec (each i)), fun i hi => Classical.choose_spec (Classical.choose_spec (each i)) hi⟩
                obtain ⟨f, g, hfg⟩ := hf
                have hrows := reads_rows (f := f) (g := g) len fun i hi => (hfg i hi).2
                have hlen : ((List.replicate len l).flatten).length = len * l.length := by simp
                have hmod : ∀ (i : Nat) (tk : TK), ((List.replicate len l).flatten)[i]? = some tk → l[i % l.length]? = some tk := by
                  have : ∀ (m i : Nat) (tk : TK), ((List.replicate m l).flatten)[i]? = some tk → l[i % l.length]? = some tk := by
                    intro m
                    induction m with
                    | zero => intro i tk q; simp at q
                    | succ m ihm =>
                      intro i tk q
                      rw [List.replicate_succ, List.flatten_cons] at q
                      rcases Nat.lt_or_ge i l.length with hi | hi
                      · rw [List.getElem?_append_left hi] at q
                        rw [Nat.mod_eq_of_lt hi]; exact q
                      · rw [List.getElem?_append_right hi] at q
                        have := ihm _ tk q
                        rw [Nat.mod_eq_sub_mod hi]; exact this
                  exact this len
                have cellAt : ∀ (m : Nat), (∀ i, i < m → W.cells? 0 (a.add (i * l.length)) l.length = some (g i)) → ∀ (i : Nat) (v : Value), ((List.range m).flatMap g)[i]? = some v → W.cell? (a.add i) = some v := by
                  intro m
                  induction m with
                  | zero => intro _ i v q; simp at q
                  | succ m ihm =>
                    intro hm i v q
                    rw [List.range_succ, List.flatMap_append] at q
                    have hl0 : ((List.range m).flatMap g).length = m * l.length := by
                      have : ∀ k, k ≤ m → ((List.range k).flatMap g).length = k * l.length := by
                        intro k
                        induction k with
                        | zero => intro _; simp
                        | succ k ihk =>
                          intro hk
                          rw [List.range_succ, List.flatMap_append, List.length_append, ihk (by omega)]
                          simp [(cells?_at (hm k (by omega))).1, Nat.succ_mul]
                      exact this m (Nat.le_refl _)
                    rcases Nat.lt_or_ge i (m * l.length) with hi | hi
                    · rw [List.getElem?_append_left (by rw [hl0]; exact hi)] at q
                      exact ihm (fun i hi => hm i (by omega)) i v q
                    · rw [List.getElem?_append_right (by rw [hl0]; exact hi), hl0] at q
                      have q : (g m)[i - m * l.length]? = some v := by simpa using q
                      have := (cells?_at (hm m (by omega))).2 _ v q
                      have e3 : (a.add (m * l.length)).add (i - m * l.length) = a.add i := by
                        exact add_add (by omega)
                      rw [e3] at this; exact this
                refine ⟨[.seq (.sym len) ((List.range len).flatMap f)], .one' ?_ rfl (.slice hl hpos ?_ (Nat.le_trans hlc hcm) ?_)⟩
                · rcases Nat.eq_zero_or_pos cap with hz | hz
                  · obtain rfl : len = 0 := by omega
                    obtain rfl : cap = 0 := hz
                    exact .seq (.empty rfl) .empty
                  · obtain ⟨s1, s2⟩ := spot hz
                    refine VR.of_list (b := false) (.list rfl hlc s1 (hS _ s2) (vs := (List.range len).flatMap g) ?_ ?_ hrows.vr hrows.one)
                    · rw [hrows.al, hrows.cl]
                    · intro i v q
                      have := cellAt len (fun i hi => (hfg i hi).1) i v q
                      rw [add_none s1] at this
                      exact this
                · rw [hrows.al, hlen]
                · intro i x tk p q
                  have hi := (List.getElem?_eq_some_iff.1 p).1
                  rw [hrows.al] at hi
                  have p2 := List.getElem?_eq_getElem hi
                  have := hmod i _ p2
                  rw [q] at this
                  cases this
                  exact hrows.ok i x _ p p2
          · cases h
        all_goals cases h
      · cases hl
    · -- array
      rename_i m e hk
      split at hl
      · rename_i l' hl'
        split at hl
        · rename_i hs
          cases hl
          rw [hk] at hd2
          cases hd2
          obtain ⟨te, hte, hse⟩ := tks_size hl'
          have hce := (cellsOf_eq hτ hte).1
          rw [hse] at hce
          unfold DataW.trod at h
          rw [hd1] at h
          split at h <;> first | (rename_i e; cases e; done) | skip
          all_goals first | (rename_i e1 e2; cases e1; done) | skip
          · rename_i cs0 _ _ m' e' he'
            obtain ⟨rfl, rfl⟩ : m = m' ∧ e = e' := by cases he'; exact ⟨rfl, rfl⟩
            split at h
            · rename_i hlen
              cases h1 : (List.range m).mapM fun i => DataW.trod enc P W 0 (fun _ => true) hd fuel e ((cs0.drop (i * P.cellsOf e)).take (P.cellsOf e)) with
              | none => rw [h1] at h; cases h
              | some xs =>
                have each : ∀ i, ∃ as, i < m → Reads τ Sh W as ((cs0.drop (i * l'.length)).take l'.length) l' := by
                  intro i
                  by_cases hi : i < m
                  · obtain ⟨y, hy⟩ := mapM_some h1 i i (by rw [List.getElem?_range hi])
                    obtain ⟨as, ha⟩ := ih e _ y hy n l' hl' (fun tk q => htk tk (List.mem_flatten.2 ⟨l', List.mem_replicate.2 ⟨by omega, rfl⟩, q⟩))
                    rw [hce] at ha
                    exact ⟨as, fun _ => ha⟩
                  · exact ⟨[], fun q => absurd q hi⟩
                have hrows := reads_rows (f := fun i => Classical.choose (each i)) (g := fun i => (cs0.drop (i * l'.length)).take l'.length) m fun i hi => Classical.choose_spec (each i) hi
                rw [drop_take_rows l'.length m cs0 (by rw [hlen, hcell, hs])] at hrows
                exact ⟨_, hrows⟩
            · cases h
          all_goals first | (cases h; done) | (exfalso; simp_all; done)
        · cases hl
      · cases hl
    · -- struct
      rename_i fs hk
      split at hl
      · rename_i l' hl'
        split at hl
        · rename_i hs
          cases hl
          rw [hk] at hd2
          obtain ⟨fields, hf1, hf2⟩ := hd2
          subst hf1
          unfold DataW.trod at h
          rw [hd1] at h
          split at h <;> first | (rename_i e; cases e; done) | skip
          all_goals first | (rename_i e1 e2; cases e1; done) | skip
          · rename_i cs0 _ _ fields' he'
            obtain rfl : fields = fields' := by cases he'; rfl
            split at h
            · rename_i hlen
              cases h1 : fields.toList.mapM fun fd => DataW.trod enc P W 0 (fun _ => true) hd fuel fd.type ((cs0.drop fd.offset).take (P.cellsOf fd.type)) with
              | none => rw [h1] at h; cases h
              | some xs =>
                rw [← hf2] at hl'
                obtain ⟨as, ha⟩ := reads_fields (τ := τ) (Sh := Sh) (f := tks τ n) (fun t cs x l q1 q2 q3 => ih t cs x q1 n l q2 q3) (fun t l q => by
                  obtain ⟨ti, q1, q2⟩ := tks_size q
                  rw [(cellsOf_eq hτ q1).1, q2]) fields.toList 0 l xs h1 hl' htk (by rw [hlen, hcell, hs]; omega)
                rw [List.drop_zero, List.take_of_length_le (by rw [hlen, hcell, hs]; exact Nat.le_refl _)] at ha
                exact ⟨as, ha⟩
            · cases h
          all_goals first | (cases h; done) | (exfalso; simp_all; done)
        · cases hl
      · cases hl
    · cases hl
end
end Go.Ax
