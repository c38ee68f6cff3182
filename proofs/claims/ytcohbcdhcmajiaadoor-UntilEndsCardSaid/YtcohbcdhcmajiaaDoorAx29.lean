/-
  The small abstract machine: the listed variables, as they are read; a law's call.
-/
import Derived.Test.YtcohbcdhcmajiaaDoorAx28
import Derived.MakeChecks
namespace Go.Ax
open Go.RowKit Go.ChangeShapes Go.WideShapes
set_option linter.unusedVariables false

/-! What a datum says of the cells. -/
def avAll (f : DataW Unit → Option (List AV)) : List (DataW Unit) → Option (List AV)
  | [] => some []
  | d :: ds => match f d, avAll f ds with
    | some a, some b => some (a ++ b)
    | _, _ => none
def avFields (f : Nat → DataW Unit → Option (List AV)) : List (Nat × Nat) → List (DataW Unit) → Nat → Option (List AV)
  | [], [], _ => some []
  | (o, t) :: fs, d :: ds, n => if o = n then match f t d with
    | some a => (avFields f fs ds (n + a.length)).map (a ++ ·)
    | none => none
    else none
  | _, _, _ => none
def sized (n : Nat) (l : Option (List AV)) : Option (List AV) :=
  match l with
  | some l => if n = l.length then some l else none
  | none => none
def avCells (τ : Tys) : Nat → Nat → DataW Unit → Option (List AV)
  | 0, _, _ => none
  | n + 1, t, d => match τ t with
    | none => none
    | some ti => sized ti.size (match ti.kind, d with
      | .int _, .lit (.int k i) => some [.int k (.lit i)]
      | .bool, .lit (.bool b) => some [.bool b]
      | .string, .lit (.string s) => some [.str (.lit s)]
      | .slice _, .nil => some [.nil]
      | .slice e, .slice (d :: ds) _ => match τ e with
        | some te => if 0 < te.size then (avAll (avCells τ n e) (d :: ds)).map fun l => [.list (.lit (ds.length + 1)) true l] else none
        | none => none
      | .array m e, .agg ds => if ds.length = m then avAll (avCells τ n e) ds else none
      | .struct fs, .agg ds => avFields (avCells τ n) fs ds 0
      | _, _ => none)

structure Rd (Sh : Nat → Prop) (W : World) (as : List AV) (cs : List Value) : Prop where
  len : cs.length = as.length
  vr : ∀ (i : Nat) (x : AV) (v : Value), as[i]? = some x → cs[i]? = some v → VR Sh W (fun _ => none) x v
  one : ∀ v ∈ cs, v.oneCell' = true

section
variable {P : Program} {τ : Tys} {Sh : Nat → Prop} {W : World} {hd : Bool}

theorem Rd.nil : Rd Sh W [] [] := ⟨rfl, fun i x v h => by simp at h, fun v h => by simp at h⟩
theorem Rd.one' {x : AV} {v : Value} (h : VR Sh W (fun _ => none) x v) (h1 : v.oneCell' = true) : Rd Sh W [x] [v] :=
  ⟨rfl, fun i y u p q => by
    cases i with
    | zero => simp at p q; subst p; subst q; exact h
    | succ i => simp at p, fun u hu => by simp at hu; subst hu; exact h1⟩
theorem Rd.append {as bs : List AV} {cs ds : List Value} (h : Rd Sh W as cs) (k : Rd Sh W bs ds) : Rd Sh W (as ++ bs) (cs ++ ds) := by
  refine ⟨by simp [h.len, k.len], fun i x v p q => ?_, fun v hv => ?_⟩
  · rcases Nat.lt_or_ge i as.length with hi | hi
    · rw [List.getElem?_append_left hi] at p
      rw [List.getElem?_append_left (by rw [h.len]; exact hi)] at q
      exact h.vr i x v p q
    · rw [List.getElem?_append_right hi] at p
      rw [List.getElem?_append_right (by rw [h.len]; exact hi), h.len] at q
      exact k.vr _ x v p q
  · rcases List.mem_append.1 hv with hv | hv
    · exact h.one v hv
    · exact k.one v hv

theorem sized_some {n : Nat} {o : Option (List AV)} {l : List AV} (h : sized n o = some l) : o = some l ∧ n = l.length := by
  unfold sized at h
  split at h
  · split at h
    · cases h; rename_i e; exact ⟨rfl, e⟩
    · cases h
  · cases h
theorem av_size {t n : Nat} {d : DataW Unit} {l : List AV} (h : avCells τ n t d = some l) : ∃ ti, τ t = some ti ∧ ti.size = l.length := by
  cases n with
  | zero => cases h
  | succ n =>
    unfold avCells at h
    split at h
    · cases h
    · rename_i ti hti
      exact ⟨ti, hti, (sized_some h).2⟩
theorem avAll_rows {k : Nat} {f : DataW Unit → Option (List AV)} {g : Nat → Option (DataW Unit × List MemPlace)} {c : Nat → List Value} (hk : ∀ d a, f d = some a → a.length = k)
    (h : ∀ i d p a, g i = some (d, p) → f d = some a → Rd Sh W a (c i)) : ∀ (n m : Nat) (xs : List (DataW Unit × List MemPlace)), ((List.range' m n).mapM g) = some xs → ∀ l, avAll f (xs.map (·.1)) = some l → Rd Sh W l ((List.range' m n).flatMap c) ∧ xs.length = n
  | 0, m, xs, hx, l, hl => by
    simp at hx
    subst hx
    cases hl
    exact ⟨.nil, rfl⟩
  | n + 1, m, xs, hx, l, hl => by
    rw [List.range'_succ, List.mapM_cons] at hx
    cases h1 : g m with
    | none => rw [h1] at hx; cases hx
    | some x =>
      cases h2 : (List.range' (m + 1) n).mapM g with
      | none => rw [h1, h2] at hx; cases hx
      | some ys =>
        rw [h1, h2] at hx
        cases hx
        have hl : avAll f (x.1 :: ys.map (·.1)) = some l := hl
        unfold avAll at hl
        split at hl
        · rename_i a b ha hb
          cases hl
          obtain ⟨r1, r2⟩ := avAll_rows hk h n (m + 1) ys h2 b hb
          rw [List.range'_succ, List.flatMap_cons]
          exact ⟨(h m x.1 x.2 a h1 ha).append r1, by simp [r2]⟩
        · cases hl

theorem av_fields {f : Nat → DataW Unit → Option (List AV)} {fuel : Nat} {cs : List Value} (ih : ∀ t cs d p l, DataW.trod (fun _ => ()) P W 0 (fun _ => true) hd fuel t cs = some (d, p) → f t d = some l → Rd Sh W l cs) (hc : ∀ t d l, f t d = some l → P.cellsOf t = l.length) :
    ∀ (fs : List Field) (n : Nat) (l : List AV) (xs : List (DataW Unit × List MemPlace)), (fs.mapM fun fd => DataW.trod (fun _ => ()) P W 0 (fun _ => true) hd fuel fd.type ((cs.drop fd.offset).take (P.cellsOf fd.type))) = some xs →
      avFields f (fs.map fun fd => (fd.offset, fd.type)) (xs.map (·.1)) n = some l → n + l.length ≤ cs.length → Rd Sh W l ((cs.drop n).take l.length)
  | [], n, l, xs, hm, h, _ => by
    simp at hm
    subst hm
    cases h; simpa using Rd.nil
  | fd :: fs, n, l, xs, hm, h, hn => by
    rw [List.mapM_cons] at hm
    cases hx : DataW.trod (fun _ => ()) P W 0 (fun _ => true) hd fuel fd.type ((cs.drop fd.offset).take (P.cellsOf fd.type)) with
    | none => rw [hx] at hm; cases hm
    | some x =>
      cases hl : (fs.mapM fun fd => DataW.trod (fun _ => ()) P W 0 (fun _ => true) hd fuel fd.type ((cs.drop fd.offset).take (P.cellsOf fd.type))) with
      | none => rw [hx, hl] at hm; cases hm
      | some ys =>
        rw [hx, hl] at hm
        cases hm
        have h : avFields f ((fd.offset, fd.type) :: fs.map fun fd => (fd.offset, fd.type)) (x.1 :: ys.map (·.1)) n = some l := h
        unfold avFields at h
        split at h
        · rename_i e
          split at h
          · rename_i l1 hl1
            cases h2 : avFields f (fs.map fun fd => (fd.offset, fd.type)) (ys.map (·.1)) (n + l1.length) with
            | none => rw [h2] at h; cases h
            | some l2 =>
              rw [h2] at h
              cases h
              rw [List.length_append] at hn
              have hb := av_fields ih hc fs (n + l1.length) l2 ys hl h2 (by omega)
              have ha := ih _ _ x.1 x.2 _ hx hl1
              rw [hc _ _ _ hl1, e] at ha
              have e2 : (cs.drop n).take (l1 ++ l2).length = (cs.drop n).take l1.length ++ (cs.drop (n + l1.length)).take l2.length := by
                rw [List.length_append, List.take_add, List.drop_drop]
              show Rd Sh W (l1 ++ l2) ((cs.drop n).take (l1 ++ l2).length)
              rw [e2]
              exact ha.append hb
          · cases h
        · cases h

theorem trod_av (hτ : ∀ t ti, τ t = some ti → TIok P t ti) (hS : ∀ b, b < W.heap.size → Sh b) :
    ∀ (fuel : Nat) (t : Nat) (cs : List Value) (d : DataW Unit) (p : List MemPlace), DataW.trod (fun _ => ()) P W 0 (fun _ => true) hd fuel t cs = some (d, p) → ∀ (n : Nat) (l : List AV), avCells τ n t d = some l → Rd Sh W l cs
  | 0, t, cs, d, p, h, n, l, hl => by cases h
  | fuel + 1, t, cs, d, p, h, 0, l, hl => by cases hl
  | fuel + 1, t, cs, d, p, h, n + 1, l, hl => by
    have ih := trod_av hτ hS fuel
    unfold avCells at hl
    split at hl
    · cases hl
    · rename_i ti hti
      obtain ⟨hcell, dd, hd1, hd2⟩ := cellsOf_eq hτ hti
      replace hl := sized_some hl
      obtain ⟨hl, hsz⟩ := hl
      split at hl
      · -- int
        rename_i k0 k i hk
        cases hl
        rw [hk] at hd2
        cases hd2
        obtain ⟨m, rfl, hx, hw⟩ := DataW.trod_int hd1 h
        simp only [Prod.mk.injEq] at hx
        obtain ⟨hx, _⟩ := hx
        cases hx
        exact .one' (.int rfl) rfl
      · -- bool
        rename_i b hk
        cases hl
        rw [hk] at hd2
        cases hd2
        unfold DataW.trod at h
        rw [hd1] at h
        split at h <;> first | (rename_i e; cases e; done) | skip
        all_goals first | (rename_i e1 e2; cases e1; done) | skip
        · simp only [Option.some.injEq, Prod.mk.injEq, DataW.lit.injEq, Lit.bool.injEq] at h
          rw [← h.1]
          exact .one' .bool rfl
        all_goals cases h
      · -- string
        rename_i s hk
        cases hl
        rw [hk] at hd2
        cases hd2
        unfold DataW.trod at h
        rw [hd1] at h
        split at h <;> first | (rename_i e; cases e; done) | skip
        all_goals first | (rename_i e1 e2; cases e1; done) | skip
        · split at h
          · simp only [Option.some.injEq, Prod.mk.injEq, DataW.lit.injEq, Lit.string.injEq] at h
            exact .one' (.str h.1) rfl
          · cases h
        all_goals cases h
      · -- nil
        rename_i e hk
        cases hl
        rw [hk] at hd2
        cases hd2
        unfold DataW.trod at h
        rw [hd1] at h
        split at h <;> first | (rename_i e; cases e; done) | skip
        all_goals first | (rename_i e1 e2; cases e1; done) | skip
        · exact .one' .nil rfl
        · dsimp only at h
          split at h
          · cases h1 : (List.range _).mapM fun i => (W.cells? 0 (Addr.add _ (i * P.cellsOf _)) (P.cellsOf _)).bind (DataW.trod (fun _ => ()) P W 0 (fun _ => true) hd fuel _) with
            | none => rw [h1] at h; cases h
            | some els =>
              rw [h1] at h
              simp only [Option.bind_some, if_true, Option.map_eq_some_iff] at h
              obtain ⟨_, _, h⟩ := h
              cases h
          · cases h
        all_goals cases h
      · -- slice
        rename_i e d0 ds rest hk
        split at hl
        · rename_i te hte
          split at hl
          · rename_i hpos
            cases hv : avAll (avCells τ n e) (d0 :: ds) with
            | none => rw [hv] at hl; cases hl
            | some cl =>
              rw [hv] at hl
              cases hl
              rw [hk] at hd2
              cases hd2
              have hce := (cellsOf_eq hτ hte).1
              unfold DataW.trod at h
              rw [hd1] at h
              split at h <;> first | (rename_i e; cases e; done) | skip
              all_goals first | (rename_i e1 e2; cases e1; done) | skip
              · cases h
              · rename_i e' a len cap he'
                obtain rfl : e = e' := by cases he'; rfl
                dsimp only at h
                split at h
                · rename_i hb
                  obtain ⟨_, hlc, hcm⟩ := hb
                  cases h1 : (List.range len).mapM fun i => (W.cells? 0 (a.add (i * P.cellsOf e)) (P.cellsOf e)).bind (DataW.trod (fun _ => ()) P W 0 (fun _ => true) hd fuel e) with
                  | none => rw [h1] at h; cases h
                  | some els =>
                    rw [h1] at h
                    simp only [Option.bind_some, if_true, Option.map_eq_some_iff] at h
                    obtain ⟨r, _, h⟩ := h
                    simp only [Prod.mk.injEq, DataW.slice.injEq] at h
                    obtain ⟨⟨h, _⟩, _⟩ := h
                    have hr : List.range len = List.range' 0 len := List.range_eq_range'
                    have each : ∀ i, i < len → ∃ cs, W.cells? 0 (a.add (i * P.cellsOf e)) (P.cellsOf e) = some cs := by
                      intro i hi
                      obtain ⟨y, hy⟩ := mapM_some h1 i i (by rw [List.getElem?_range hi])
                      cases hq : W.cells? 0 (a.add (i * P.cellsOf e)) (P.cellsOf e) with
                      | none => rw [hq] at hy; cases hy
                      | some cs => exact ⟨_, rfl⟩
                    rw [hr] at h1
                    obtain ⟨q1, q2⟩ := avAll_rows (Sh := Sh) (W := W) (k := te.size) (f := avCells τ n e) (c := fun i => (W.cells? 0 (a.add (i * P.cellsOf e)) (P.cellsOf e)).getD []) (fun d a q => by
                      obtain ⟨ti, k1, k2⟩ := av_size q
                      rw [hte] at k1; cases k1; exact k2.symm) (fun i d p a q1 q2 => by
                      cases hq : W.cells? 0 (Addr.add _ (i * P.cellsOf e)) (P.cellsOf e) with
                      | none => rw [hq] at q1; cases q1
                      | some cs => rw [hq] at q1; exact ih e cs d p q1 n a q2) len 0 els h1 cl (by rw [h]; exact hv)
                    have hlen : len = ds.length + 1 := by
                      have := congrArg List.length h
                      simp at this
                      omega
                    have hlp : 0 < len := by omega
                    obtain ⟨cs0, hcs0⟩ := each 0 hlp
                    rw [Nat.zero_mul] at hcs0
                    obtain ⟨z1, z2⟩ := cells?_at hcs0
                    obtain ⟨s1, s2⟩ : a.spot = none ∧ a.block < W.heap.size := cell_spot (z2 0 _ (List.getElem?_eq_getElem (by rw [z1, hce]; exact hpos)))
                    have cellAt : ∀ (m : Nat), m ≤ len → ((List.range' 0 m).flatMap fun i => (W.cells? 0 (a.add (i * P.cellsOf e)) (P.cellsOf e)).getD []).length = m * te.size ∧
                        ∀ (i : Nat) (v : Value), ((List.range' 0 m).flatMap fun i => (W.cells? 0 (a.add (i * P.cellsOf e)) (P.cellsOf e)).getD [])[i]? = some v → W.cell? (a.add i) = some v := by
                      intro m
                      induction m with
                      | zero => intro _; exact ⟨by simp, fun i v q => by simp at q⟩
                      | succ m ihm =>
                        intro hm
                        obtain ⟨i1, i2⟩ := ihm (by omega)
                        obtain ⟨cs1, hcs1⟩ := each m (by omega)
                        obtain ⟨y1, y2⟩ := cells?_at hcs1
                        rw [List.range'_1_concat, List.flatMap_append]
                        simp only [Nat.zero_add, List.flatMap_cons, List.flatMap_nil, List.append_nil, hcs1, Option.getD_some]
                        refine ⟨by rw [List.length_append, i1, y1, hce, Nat.succ_mul], fun i v q => ?_⟩
                        rcases Nat.lt_or_ge i (m * te.size) with hi | hi
                        · rw [List.getElem?_append_left (by rw [i1]; exact hi)] at q
                          exact i2 i v q
                        · rw [List.getElem?_append_right (by rw [i1]; exact hi), i1] at q
                          have := y2 _ v q
                          rw [add_add (a := a) (i := m * P.cellsOf e) (j := i - m * te.size) (k := i) (by rw [hce]; omega)] at this
                          exact this
                    refine .one' (.list (by simpa [N.v] using hlen.symm) hlc s1 (hS _ s2) (vs := (List.range' 0 len).flatMap fun i => (W.cells? 0 (a.add (i * P.cellsOf e)) (P.cellsOf e)).getD []) q1.len ?_ q1.vr q1.one) rfl
                    intro i v q
                    have := (cellAt len (Nat.le_refl _)).2 i v q
                    rw [add_none s1] at this
                    exact this
                · cases h
              all_goals cases h
          · cases hl
        · cases hl
      · -- array
        rename_i m e ds hk
        split at hl
        · rename_i hm
          rw [hk] at hd2
          cases hd2
          unfold DataW.trod at h
          rw [hd1] at h
          split at h <;> first | (rename_i e; cases e; done) | skip
          all_goals first | (rename_i e1 e2; cases e1; done) | skip
          · rename_i cs0 _ _ m' e' he'
            obtain ⟨rfl, rfl⟩ : m = m' ∧ e = e' := by cases he'; exact ⟨rfl, rfl⟩
            split at h
            · rename_i hlen
              simp only [Option.map_eq_some_iff, Prod.mk.injEq, DataW.agg.injEq] at h
              obtain ⟨xs, h1, h2, _⟩ := h
              have hr : List.range m = List.range' 0 m := List.range_eq_range'
              rw [hr] at h1
              rcases Nat.eq_zero_or_pos m with hz | hz
              · subst hz
                simp at h1
                subst h1
                subst h2
                cases hl
                have : cs0 = [] := List.length_eq_zero_iff.1 (by rw [hlen, hcell, hsz]; rfl)
                rw [this]; exact .nil
              · have hte : ∃ te, τ e = some te := by
                  cases ds with
                  | nil => simp at hm; omega
                  | cons d0 ds =>
                    unfold avAll at hl
                    split at hl
                    · rename_i ha _
                      obtain ⟨ti, k1, _⟩ := av_size ha
                      exact ⟨ti, k1⟩
                    · cases hl
                obtain ⟨te, hte⟩ := hte
                have hce := (cellsOf_eq hτ hte).1
                obtain ⟨q1, q2⟩ := avAll_rows (Sh := Sh) (W := W) (k := te.size) (f := avCells τ n e) (c := fun i => (cs0.drop (i * P.cellsOf e)).take (P.cellsOf e)) (fun d a q => by
                  obtain ⟨ti, k1, k2⟩ := av_size q
                  rw [hte] at k1; cases k1; exact k2.symm) (fun i d p a q1 q2 => ih e _ d p q1 n a q2) m 0 xs h1 l (by rw [h2]; exact hl)
                have hall : ∀ (xs : List (DataW Unit)) (l : List AV), avAll (avCells τ n e) xs = some l → l.length = xs.length * te.size := by
                  intro xs
                  induction xs with
                  | nil => intro l q; cases q; simp
                  | cons x xs ihx =>
                    intro l q
                    unfold avAll at q
                    split at q
                    · rename_i a b ha hb
                      cases q
                      obtain ⟨ti, k1, k2⟩ := av_size ha
                      rw [hte] at k1; cases k1
                      rw [List.length_append, ihx _ hb, ← k2, List.length_cons, Nat.succ_mul]; omega
                    · cases q
                rw [← hr, drop_take_rows (P.cellsOf e) m cs0 (by rw [hlen, hcell, hsz, hall _ _ hl, hm, hce])] at q1
                exact q1
            · cases h
          all_goals first | (cases h; done) | (exfalso; simp_all; done)
        · cases hl
      · -- struct
        rename_i fs ds hk
        rw [hk] at hd2
        obtain ⟨fields, hf1, hf2⟩ := hd2
        subst hf1
        unfold DataW.trod at h
        rw [hd1] at h
        split at h <;> first | (rename_i e; cases e; done) | skip
        all_goals first | (rename_i e1 e2; cases e1; done) | skip
        · rename_i cs0 _ _ fields' he'
          obtain rfl : fields = fields' := by cases he'; rfl
          split at h
          · rename_i hlen
            simp only [Option.map_eq_some_iff, Prod.mk.injEq, DataW.agg.injEq] at h
            obtain ⟨xs, h1, h2, _⟩ := h
            rw [← hf2, ← h2] at hl
            have ha := av_fields (Sh := Sh) (f := avCells τ n) (fun t cs d p l q1 q2 => ih t cs d p q1 n l q2) (fun t d l q => by
              obtain ⟨ti, q1, q2⟩ := av_size q
              rw [(cellsOf_eq hτ q1).1, q2]) fields.toList 0 l xs h1 hl (by rw [hlen, hcell, hsz]; omega)
            rw [List.drop_zero, List.take_of_length_le (by rw [hlen, hcell, hsz]; exact Nat.le_refl _)] at ha
            exact ha
          · cases h
        all_goals first | (cases h; done) | (exfalso; simp_all; done)
      · cases hl

/-! The listed variables. -/
/-- The cells of the listed variables. -/
def glOf (P : Program) (τ : Tys) : List (String × DataW Unit) → Option (List (Nat × List AV))
  | [] => some []
  | (n, d) :: r => match P.globalNamed n with
    | some g => match (P.globals[g]?).map (·.type) with
      | some t => match avCells τ 12 t d, glOf P τ r with
        | some l, some m => some ((g, l) :: m)
        | _, _ => none
      | none => none
    | none => none

theorem laid_gr (hτ : ∀ t ti, τ t = some ti → TIok P t ti) (hS : ∀ b, b < W.heap.size → Sh b) : ∀ (laid : List (String × DataW Unit)) (ps : List MemPlace), DataW.LaidVars P W laid ps → ∀ m, glOf P τ laid = some m → GR (look m) Sh W
  | [], ps, _, m, hm => by cases hm; exact fun g cells h => by cases h
  | (n, d) :: r, ps, h, m, hm => by
    obtain ⟨g, t, cs, fuel, p, q, h1, h2, h3, h4, h5, h6⟩ := h
    unfold glOf at hm
    rw [h1] at hm
    dsimp only at hm
    rw [h2] at hm
    dsimp only at hm
    split at hm
    · rename_i l m' hl hm'
      cases hm
      have ih := laid_gr hτ hS r q h5 m' hm'
      have hr := trod_av hτ hS fuel t _ d p h4 12 l hl
      intro g' cells hg
      unfold look at hg
      split at hg
      · rename_i e
        cases e
        cases hg
        unfold World.var? at h3
        rw [h1] at h3
        simp only [Option.bind_some] at h3
        split at h3
        · rename_i cs' e fr hb
          cases h3
          refine ⟨.ref rfl (hS _ (Array.getElem?_eq_some_iff.1 hb).1) (Nat.le_refl _) hr.len (fun i v q => ?_) hr.vr hr.one, _, _, _, hb, by simpa using hr.len⟩
          show W.cell? ⟨g, 0 - 0 + i, none⟩ = some v
          rw [Nat.zero_add]
          unfold World.cell?
          simp only [hb]
          simpa using q
        · cases h3
      · exact ih g' cells hg
    · cases hm

/-- .. of those that are kept. -/
def glOfK (P : Program) (τ : Tys) (keep : Nat → Bool) : List (String × DataW Unit) → Option (List (Nat × List AV))
  | [] => some []
  | (n, d) :: r => match P.globalNamed n with
    | some g => bif keep g then (match (P.globals[g]?).map (·.type) with
      | some t => match avCells τ 12 t d, glOfK P τ keep r with
        | some l, some m => some ((g, l) :: m)
        | _, _ => none
      | none => none) else glOfK P τ keep r
    | none => none

theorem laid_gr_k (keep : Nat → Bool) (hτ : ∀ t ti, τ t = some ti → TIok P t ti) (hS : ∀ b, b < W.heap.size → Sh b) : ∀ (laid : List (String × DataW Unit)) (ps : List MemPlace), DataW.LaidVars P W laid ps → ∀ m, glOfK P τ keep laid = some m → GR (look m) Sh W
  | [], ps, _, m, hm => by cases hm; exact fun g cells h => by cases h
  | (n, d) :: r, ps, h, m, hm => by
    obtain ⟨g, t, cs, fuel, p, q, h1, h2, h3, h4, h5, h6⟩ := h
    unfold glOfK at hm
    rw [h1] at hm
    dsimp only at hm
    cases hk : keep g with
    | false =>
      rw [hk] at hm
      exact laid_gr_k keep hτ hS r q h5 m hm
    | true =>
    rw [hk] at hm
    rw [cond_true, h2] at hm
    dsimp only at hm
    split at hm
    · rename_i l m' hl hm'
      cases hm
      have ih := laid_gr_k keep hτ hS r q h5 m' hm'
      have hr := trod_av hτ hS fuel t _ d p h4 12 l hl
      intro g' cells hg
      unfold look at hg
      split at hg
      · rename_i e
        cases e
        cases hg
        unfold World.var? at h3
        rw [h1] at h3
        simp only [Option.bind_some] at h3
        split at h3
        · rename_i cs' e fr hb
          cases h3
          refine ⟨.ref rfl (hS _ (Array.getElem?_eq_some_iff.1 hb).1) (Nat.le_refl _) hr.len (fun i v q => ?_) hr.vr hr.one, _, _, _, hb, by simpa using hr.len⟩
          show W.cell? ⟨g, 0 - 0 + i, none⟩ = some v
          rw [Nat.zero_add]
          unfold World.cell?
          simp only [hb]
          simpa using q
        · cases h3
      · exact ih g' cells hg
    · cases hm

end

/-! Arguments. -/
section
variable {P : Program} {τ : Tys} {W : World} {hd : Bool}
def shTK : TK → Sh
  | .int k => .int k
  | .bool => .bool
  | .string => .str
  | _ => .seq
/-- The shapes of a function's parameters, and the kinds of all cells. -/
def params (τ : Tys) : List Nat → Option (List Sh × List TK)
  | [] => some ([], [])
  | t :: ts => match τ t, tks τ 12 t, params τ ts with
    | some ti, some l, some (a, k) => match ti.kind.isAgg, l with
      | true, l => some (.agg (l.map shTK) :: a, l ++ k)
      | false, [tk] => some (shTK tk :: a, tk :: k)
      | _, _ => none
    | _, _, _ => none
/-- What data may be. -/
def DatOk (τ : Tys) : List TK → List Dat → Prop
  | [], ds => ds = []
  | .int k :: l, ds => ∃ i r, ds = .i i :: r ∧ (Lit.int k i).wf = true ∧ DatOk τ l r
  | .bool :: l, ds => ∃ b r, ds = .b b :: r ∧ DatOk τ l r
  | .string :: l, ds => ∃ s r, ds = .s s :: r ∧ s.length ≤ maxLen ∧ DatOk τ l r
  | .slice e :: l, ds => ∃ n c r, ds = .n n :: .l c :: r ∧ CellOk τ (.slice e) (.seq (.sym n) c) ∧ DatOk τ l r
  | _ :: _, _ => False

theorem getsWith_cons {f : Sh → AV → Option (List Dat)} {s : Sh} {ss : List Sh} {v : AV} {vs : List AV} {a b : List Dat} (h : f s v = some a) (k : getsWith f ss vs = some b) : getsWith f (s :: ss) (v :: vs) = some (a ++ b) := by
  unfold getsWith; rw [h, k]
theorem cells_dat {n : Nat} : ∀ (l : List TK) (as : List AV), as.length = l.length → (∀ (i : Nat) (x : AV) (tk : TK), as[i]? = some x → l[i]? = some tk → CellOk τ tk x) → ∃ ds, getsWith (Sh.get [] (n + 1)) (l.map shTK) as = some ds ∧ ∀ m r, DatOk τ m r → DatOk τ (l ++ m) (ds ++ r)
  | [], [], _, _ => ⟨[], rfl, fun m r h => h⟩
  | [], _ :: _, h, _ => by simp at h
  | _ :: _, [], h, _ => by simp at h
  | tk :: l, x :: as, h, hc => by
    obtain ⟨ds, h1, h2⟩ := cells_dat (n := n) l as (by simpa using h) fun i x tk p q => hc (i + 1) x tk (by simpa using p) (by simpa using q)
    have hx := hc 0 x tk rfl rfl
    cases hx with
    | int hw => exact ⟨_, getsWith_cons (f := Sh.get [] (n + 1)) (by unfold Sh.get shTK; dsimp only; rw [if_pos rfl]) h1, fun m r hr => ⟨_, _, rfl, hw, h2 m r hr⟩⟩
    | bool => exact ⟨_, getsWith_cons (f := Sh.get [] (n + 1)) rfl h1, fun m r hr => ⟨_, _, rfl, h2 m r hr⟩⟩
    | str hs => exact ⟨_, getsWith_cons (f := Sh.get [] (n + 1)) rfl h1, fun m r hr => ⟨_, _, rfl, hs, h2 m r hr⟩⟩
    | slice he hp hl hn hh => exact ⟨_, getsWith_cons (f := Sh.get [] (n + 1)) rfl h1, fun m r hr => ⟨_, _, _, rfl, .slice he hp hl hn hh, h2 m r hr⟩⟩


theorem args_read {H : Type} {enc : TypeId × Value → H} {S1 : Nat → Prop} (hτ : ∀ t ti, τ t = some ti → TIok P t ti) (hS : ∀ b, b < W.heap.size → S1 b) {base : Nat} :
    ∀ (ts : List Nat) (vs : List Value) (ds : List (DataW H)) (ps : List MemPlace), DataW.TrodAll enc P W 0 (fun _ => true) hd ts vs ds ps → (∀ (j : Nat) (t : Nat) (v : Value), ts[j]? = some t → vs[j]? = some v → Value.okWide P W .any base t v) →
      ∀ args l, params τ ts = some (args, l) → TkOk τ l → ∃ as dats, VRL S1 W (fun _ => none) as vs ∧ getsWith (Sh.get [] 20) args as = some dats ∧ DatOk τ l dats
  | [], vs, ds, ps, h, _, args, l, hp, _ => by
    cases hp
    obtain ⟨rfl, rfl, rfl⟩ := trodAll_nil h
    exact ⟨[], [], .nil, rfl, rfl⟩
  | t :: ts, vs, ds, ps, h, hok, args, l, hp, htk => by
    obtain ⟨v, vs', d, ds', p, q, rfl, rfl, rfl, h1, h2⟩ := trodAll_cons h
    unfold params at hp
    split at hp
    · rename_i ti lt a k hti hlt hpr
      have hsub : TkOk τ lt ∧ TkOk τ k := by
        split at hp
        · cases hp; exact ⟨fun tk q => htk tk (List.mem_append.2 (.inl q)), fun tk q => htk tk (List.mem_append.2 (.inr q))⟩
        · cases hp; exact ⟨fun tk q => htk tk (by rw [List.mem_singleton.1 q]; exact List.mem_cons_self ..), fun tk q => htk tk (List.mem_cons_of_mem _ q)⟩
        · cases hp
      obtain ⟨as, dats, r1, r2, r3⟩ := args_read hτ hS ts vs' ds' q h2 (fun j t v p q => hok (j + 1) t v (by simpa using p) (by simpa using q)) a k hpr hsub.2
      have hv := hok 0 t v rfl rfl
      obtain ⟨fuel, hf⟩ := h1
      obtain ⟨bs, hb⟩ := trod_read hτ hS fuel t _ _ hf 12 lt hlt hsub.1
      obtain ⟨hcell, dd, hd1, hd2⟩ := cellsOf_eq hτ hti
      split at hp
      · rename_i hag
        cases hp
        have hcs : ∃ cs : Array Value, v = .agg cs := by
          rcases kindAgg hd2 hag with ⟨fs, rfl⟩ | ⟨n, e, rfl⟩
          · obtain ⟨cs, h, _⟩ := okWide_struct hd1 hv; exact ⟨cs, h⟩
          · simp only [Value.okWide, hd1] at hv
            obtain ⟨cs, h, _⟩ := hv; exact ⟨cs, h⟩
        obtain ⟨cs, rfl⟩ := hcs
        obtain ⟨dt, g1, g2⟩ := cells_dat (n := 18) _ bs hb.al hb.ok
        refine ⟨.agg true bs :: as, dt ++ dats, .cons (.agg ?_ ?_ ?_) r1, getsWith_cons g1 r2, g2 _ _ r3⟩
        · rw [hb.al, ← hb.cl]; simp [Value.cells]
        · intro i x v p q
          exact hb.vr i x v p (by simpa [Value.cells] using q)
        · intro i v q
          exact hb.one v (List.mem_of_getElem? (l := cs.toList) (i := i) (by simpa using q))
      · rename_i tk hag
        cases hp
        have hcs : ∃ c : Value, v.cells.toList = [c] ∧ v = c := by
          obtain ⟨c, hc⟩ : ∃ c, v.cells.toList = [c] := by
            have := hb.cl
            simp at this
            exact List.length_eq_one_iff.1 (by simpa using this)
          refine ⟨c, hc, ?_⟩
          have na := kindNot hd2 hag
          cases v <;> first | (simpa [Value.cells] using hc) | skip
          exfalso
          have hx : ∃ x, bs = [x] := List.length_eq_one_iff.1 (by rw [hb.al]; rfl)
          obtain ⟨x, rfl⟩ := hx
          have hk := hb.ok 0 x tk rfl rfl
          have hlt' := hlt
          unfold tks at hlt
          rw [hti] at hlt
          dsimp only at hlt
          simp only [Value.okWide, hd1] at hv
          cases dd <;> simp_all [Cell.okWide, Cell.ok]
        obtain ⟨c, hc1, rfl⟩ := hcs
        rw [hc1] at hb
        obtain ⟨x, rfl⟩ : ∃ x, bs = [x] := List.length_eq_one_iff.1 (by rw [hb.al]; rfl)
        obtain ⟨dt, g1, g2⟩ := cells_dat (n := 19) [tk] [x] rfl hb.ok
        have g1 : getsWith (Sh.get [] 20) (shTK tk :: []) [x] = some dt := g1
        unfold getsWith at g1
        split at g1
        · rename_i a1 b1 e1 e2
          cases e2
          cases g1
          rw [List.append_nil] at g2
          exact ⟨x :: as, a1 ++ dats, .cons (hb.vr 0 x _ rfl rfl) r1, getsWith_cons e1 r2, g2 _ _ r3⟩
        · cases g1
      · cases hp
    · cases hp

/-- A law's call. -/
theorem law_calls {H : Type} {enc : TypeId × Value → H} {G : Nat → Option (List AV)} (hτ : ∀ t ti, τ t = some ti → TIok P t ti) {base f : Nat} {fn : Func} {c : Code} (hf : P.funcs[f]? = some fn) (hb : fn.body = some c)
    (hn : (fn.name == "runtime.NumGoroutine") = false) {ts : List Nat} {vs : List Value} {ds : List (DataW H)} {ps : List MemPlace} (hA : DataW.TrodAll enc P W 0 (fun _ => true) hd ts vs ds ps)
    (hok : ∀ (j : Nat) (t : Nat) (v : Value), ts[j]? = some t → vs[j]? = some v → Value.okWide P W .any base t v) {args : List Sh} {l : List TK} (hp : params τ ts = some (args, l)) (hk : l.all (tkOk τ 6) = true) {F : List Dat → Option (List Dat)} (hF : FnOk P G f ⟨args, .bool, F⟩) (hG : GR G (fun b => b < W.heap.size) W)
    (hlaw : ∀ dats, DatOk τ l dats → F dats = some [.b true]) : Calls P f vs.toArray W fun e W' => e = .returned (.bool true) ∧ Below W.heap.size W W' := by
  obtain ⟨as, dats, h1, h2, h3⟩ := args_read hτ (S1 := fun b => b < W.heap.size) (fun b h => h) ts vs ds ps hA hok args l hp (.of_all 6 hk)
  obtain ⟨x, h4, h5⟩ := hF.out as dats _ h2 (hlaw _ h3)
  have hx : x = .bool true := by
    have h5 := h5 AV (fun v => O.ret v) (.bool true) rfl
    exact Option.some.inj h5
  subst hx
  rcases h4.out _ W vs hG (fun b h => h) h1 with ⟨v, W', q1, q2⟩ | ⟨q1, q2⟩
  · exfalso
    have h1 : fn.name ≠ "runtime.NumGoroutine" := by simpa using hn
    simp [callFunc, hf, h1, hb] at q1
  · refine q2.mono ?_
    rintro e W' ⟨v, Sh', rfl, hbl, _, _, _, hv⟩
    cases hv
    exact ⟨rfl, hbl⟩
end
end Go.Ax
