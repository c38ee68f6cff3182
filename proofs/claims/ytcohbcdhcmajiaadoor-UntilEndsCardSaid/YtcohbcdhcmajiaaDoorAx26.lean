/-
  The small abstract machine: what a piece of code says, as a function of plain data: it is right.
-/
import Derived.Test.YtcohbcdhcmajiaaDoorAx25
namespace Go.Ax
open Go.RowKit
set_option linter.unusedVariables false

section
variable {P : Program} {G : Nat → Option (List AV)} {τ : Tys} {D : Nat → Option XDesc} {R : Nat → Option Rule} {E : Nat → Option Fn}

/-- The table of functions is the program's. -/
def DXOk (P : Program) (G : Nat → Option (List AV)) (τ : Tys) (D : Nat → Option XDesc) : Prop :=
  ∀ f c nt res cx, D f = some (c, nt, res, cx) → ∀ J args H n R, args.length ≤ nt → T.prop P G n (resQ R) (bodyT τ G J c nt res args H n) → CallA P G f args H n R

/-- Rules are right. -/
def RulesOk (P : Program) (G : Nat → Option (List AV)) (R : Nat → Option Rule) : Prop :=
  ∀ f r, R f = some r → ∀ args H n Q, T.prop P G n (resQ Q) (r args H n) → CallA P G f args H n Q

/-- A function of plain data says what a function of the program does. -/
structure FnOk (P : Program) (G : Nat → Option (List AV)) (f : Nat) (fn : Fn) : Prop where
  out : ∀ args ds r, getsWith (Sh.get [] 20) fn.args args = some ds → fn.run ds = some r → ∃ x, FnA P G f args x ∧ ∀ β (K : AV → O β) y, (Sh.elim 20 fn.res r fun v _ => K v).run = some y → (K x).run = some y
def EOk (P : Program) (G : Nat → Option (List AV)) (E : Nat → Option Fn) : Prop := ∀ f fn, E f = some fn → FnOk P G f fn

theorem flat_or {v : AV} {args : List AV} (h : (flatB 20 v || args.all (closedN 20)) = true) : Flat v ∨ ∀ x ∈ args, Closed x := by
  rw [Bool.or_eq_true] at h
  rcases h with h | h
  · exact .inl (flatB_sound h)
  · exact .inr (closedN_all h)

theorem FnA.le {f : Nat} {args args' : List AV} {x y : AV} (h : FnA P G f args x) (ha : ∀ Sh W vs, VRL Sh W (fun _ => none) args' vs → VRL Sh W (fun _ => none) args vs) (hy : ∀ Sh W v, VR Sh W (fun _ => none) x v → VR Sh W (fun _ => none) y v) : FnA P G f args' y := by
  constructor
  intro Sh W vs h1 h2 h3
  refine (h.out Sh W vs h1 h2 (ha _ _ _ h3)).mono ?_
  rintro e W' ⟨v, Sh', q1, q2, q3, q4, q5, q6⟩
  exact ⟨v, Sh', q1, q2, q3, q4, q5, hy _ _ _ q6⟩

theorem FnA.of_call_mv {f : Nat} {args : List AV} {res : AV} (h : CallA P G f args [] 0 fun x H n => ∃ v, Frz H x v ∧ Mv [] v res) : FnA P G f args res := by
  constructor
  intro Sh W vs hG hS hv
  have hH : HRel G W Sh Sh (fun _ => none) [] 0 W := ⟨Below.refl _ _, (fun id l sh b h => by cases h), (fun id id' l x b h => by cases h), fun _ _ => rfl, hS, fun _ h => .inl h, hG, fun id x h => by cases h⟩
  refine (h.out W Sh Sh _ W vs hH hv).mono ?_
  rintro e W' ⟨x, v, H', n', Sh', ρ', rfl, ⟨u, hq, hm⟩, he, hH', hx⟩
  refine ⟨v, live Sh' ρ' H', rfl, hH'.below, fun b q => .inl (he.sh b q), ?_, fun b q => hH'.live_lt q, hm _ _ (fun _ _ e => by cases e) _ _ _ (hq.read hH' v hx)⟩
  rintro b (q | ⟨id, ⟨l, sh⟩, hl, hr⟩)
  · exact hH'.grow b q
  · obtain ⟨cs, e, fr, h1, _⟩ := hH'.blk id l sh b hl hr
    exact .inr h1

/-- One depth is right. -/
def XOk (P : Program) (G : Nat → Option (List AV)) (F : Ctx → Nat → T → (β : Type) → (Ex → St → O β) → O β) : Prop :=
  ∀ cx B t β (κ : Ex → St → O β) r, (F cx B t β κ).run = some r → T.prop P G B (fun e st => (κ e st).run = some r) t

theorem Xs_ok (hτ : ∀ t ti, τ t = some ti → TIok P t ti) (hmix : P.follows .mixedOrders = true) (hD : DXOk P G τ D) (hR : RulesOk P G R) (hE : EOk P G E) {prev : Ctx → Nat → T → (β : Type) → (Ex → St → O β) → O β} (hp : XOk P G prev) : XOk P G (Xs τ G D R E prev) := by
  intro cx B t
  induction t with
  | fail => intro β κ r h; cases h
  | done e st => intro β κ r h; exact h
  | int e k ih => intro β κ r h; exact ⟨.sym (e ()), rfl, ih _ β κ r h⟩
  | nat e k ih => intro β κ r h; exact ⟨.sym (e ()), rfl, ih _ β κ r h⟩
  | str e k ih => intro β κ r h; exact ⟨.sym (e ()), rfl, ih _ β κ r h⟩
  | bytes l k ih =>
    intro β κ r h
    obtain ⟨s, h1, h2⟩ := run_bind h
    exact ⟨.sym s, h1, ih _ β κ r h2⟩
  | cmp p k ih =>
    intro β κ r h
    rcases run_ite h with ⟨h1, h2⟩ | ⟨h1, h2⟩
    · exact ⟨fun _ => ih true β κ r h2, fun q => by rw [h1] at q; cases q⟩
    · exact ⟨fun q => (by rw [h1] at q; cases q), fun _ => ih false β κ r h2⟩
  | req p k ih =>
    intro β κ r h
    obtain ⟨h1, h2⟩ := run_req h
    exact ⟨h1, ih () β κ r h2⟩
  | idx ty l k ih =>
    intro β κ r h
    cases ty with
    | int kd =>
      obtain ⟨n, h1, h2⟩ := run_bind h
      unfold asI at h1
      split at h1
      · rename_i k' i he
        split at h1
        · rename_i ek; subst ek; cases h1
          exact ⟨_, _, he, fun _ _ _ _ q => by cases q with | int q => exact .int q, ih _ β κ r h2⟩
        · cases h1
      · cases h1
    | bool =>
      obtain ⟨n, h1, h2⟩ := run_bind h
      unfold asB at h1
      split at h1
      · rename_i b he
        cases h1
        exact ⟨_, _, he, VLe.refl _, ih _ β κ r h2⟩
      · cases h1
    | string =>
      obtain ⟨n, h1, h2⟩ := run_bind h
      unfold asS at h1
      split at h1
      · rename_i b he
        cases h1
        exact ⟨_, _, he, fun _ _ _ _ q => by cases q with | str q => exact .str q, ih _ β κ r h2⟩
      · cases h1
    | slice e =>
      obtain ⟨n, h1, h2⟩ := run_bind h
      unfold asL at h1
      split at h1
      · rename_i he; cases h1
        exact ⟨_, _, he, fun _ _ _ _ q => .seq (.nil rfl) q, ih _ β κ r h2⟩
      · rename_i he; cases h1
        exact ⟨_, _, he, fun _ _ _ _ q => .seq (.empty rfl) q, ih _ β κ r h2⟩
      · rename_i he; cases h1
        exact ⟨_, _, he, fun _ _ _ _ q => q.seq_of_list, ih _ β κ r h2⟩
      · rename_i he; cases h1
        exact ⟨_, _, he, fun _ _ _ _ q => q.seq_of_seq, ih _ β κ r h2⟩
      · cases h1
    | _ => cases h
  | lst e k ih => intro β κ r h; exact ⟨⟨false, e ()⟩, rfl, ih _ β κ r h⟩
  | call f args H n k ih =>
    intro β κ r h
    have h : (match E f with
      | some fn => frzsO (frzO H 20) args fun fargs => match getsWith (Sh.get [] 20) fn.args fargs with
        | some ds => O.bind (fn.run ds) fun r => Sh.elim 20 fn.res r fun v _ => match flatB 20 v || args.all (closedN 20) with
          | true => Xs τ G D R E prev cx B (k v H n) β κ
          | false => frzsO (frzO (keepH (args.flatMap (reachA H 20)) H) 20) args fun fargs => match getsWith (Sh.get [] 20) fn.args fargs with
            | some ds => O.bind (fn.run ds) fun r => Sh.elim 20 fn.res r fun v _ => Xs τ G D R E prev cx B (k v (shutH (args.flatMap (reachA H 20)) H) n) β κ
            | none => .none
        | none => .none
      | none => match R f with
        | some r => prev ⟨⟨[], [], []⟩, []⟩ n (r args H n) β fun _ st => match st.tmps with
          | [(_, x)] => Xs τ G D R E prev cx B (k x st.heap st.next) β κ
          | _ => .none
        | none => match D f with
          | some (c, nt, res, cx') => match Nat.ble args.length nt with
            | true => prev cx' n (bodyT τ G cx'.J c nt res args H n) β fun _ st => match st.tmps with
              | [(_, x)] => Xs τ G D R E prev cx B (k x st.heap st.next) β κ
              | _ => .none
            | false => .none
          | none => .none).run = some r := h
    split at h
    · rename_i fn hfn
      obtain ⟨fargs, hf, h⟩ := frzsO_sound (fun x K r => frzO_sound 20 x K r) _ _ _ h
      split at h
      · rename_i ds hds
        obtain ⟨r1, h1, h⟩ := run_bind h
        obtain ⟨x, hx, hel⟩ := (hE f fn hfn).out fargs ds r1 hds h1
        have h := hel _ _ _ h
        split at h
        · rename_i hc
          exact CallA.of_fn hf hx (flat_or hc) (ih _ _ _ β κ r h)
        · obtain ⟨fargs, hf, h⟩ := frzsO_sound (fun x K r => frzO_sound 20 x K r) _ _ _ h
          split at h
          · rename_i ds hds
            obtain ⟨r1, h1, h⟩ := run_bind h
            obtain ⟨x, hx, hel⟩ := (hE f fn hfn).out fargs ds r1 hds h1
            exact CallA.of_fn_shut hf hx (ih _ _ _ β κ r (hel _ _ _ h))
          · cases h
      · cases h
    · split at h
      · rename_i ru hru
        refine hR f ru hru _ _ _ _ (T.mono _ ?_ (hp _ _ _ _ _ _ h))
        intro e st hk
        unfold resQ
        split at hk
        · rename_i x hx
          rw [hx]
          exact ih _ _ _ β κ r hk
        · cases hk
      split at h
      · rename_i c nt res cx' hd
        split at h
        · rename_i hle
          refine hD f c nt res cx' hd _ _ _ _ _ (Nat.le_of_ble_eq_true hle) (T.mono _ ?_ (hp _ _ _ _ _ _ h))
          intro e st hk
          unfold resQ
          split at hk
          · rename_i x hx
            rw [hx]
            exact ih _ _ _ β κ r hk
          · cases hk
        · cases h
      · cases h
  | fcall f args H k ih =>
    intro β κ r h
    obtain ⟨fargs, hf, h⟩ := frzsO_sound (fun x K r => frzO_sound 20 x K r) _ _ _ h
    split at h
    · rename_i fn hfn
      split at h
      · rename_i ds hds
        obtain ⟨r1, h1, h⟩ := run_bind h
        obtain ⟨x, hx, hel⟩ := (hE f fn hfn).out fargs ds r1 hds h1
        have h := hel _ _ _ h
        split at h
        · rename_i hc
          exact ⟨⟨fargs, x, hf, hx, flat_or hc, ih _ β κ r h⟩⟩
        · cases h
      · cases h
    · cases h
  | loop c st k ih =>
    intro β κ r h
    have h : (match findTm B st (firstId c) st.next cx.tms with
      | some tm => tm.getO B st.nt st fun ds => O.loop (fun ds => tm.elimO st.nt ds fun st1 => prev cx B (runT τ G cx.J c st1 .done) (List Dat ⊕ β) fun e st' => match e with
          | .normal => tm.getO B st.nt st' fun ds' => .ret (.inl ds')
          | e => .mapR (Xs τ G D R E prev cx B (k e st') β κ)) ds
      | none => prev cx B (runT τ G cx.J c st .done) β fun e st' => match e with
          | .normal => prev cx B (.loop c st' k) β κ
          | e => Xs τ G D R E prev cx B (k e st') β κ).run = some r := h
    split at h
    · rename_i tm htm
      obtain ⟨ds0, h, s0, hle0, hel0⟩ := getO_dec (G := G) h
      have h : iter (fun ds => (tm.elimO st.nt ds fun st1 => prev cx B (runT τ G cx.J c st1 .done) (List Dat ⊕ β) fun e st' => match e with
          | .normal => tm.getO B st.nt st' fun ds' => .ret (.inl ds')
          | e => .mapR (Xs τ G D R E prev cx B (k e st') β κ)).run) ds0 = some r := h
      obtain ⟨n, hn⟩ := iter_some.1 h
      have key : ∀ (n : Nat) (ds : List Dat) (s : St), Dec G tm B st.nt s ds → iterN (fun ds => (tm.elimO st.nt ds fun st1 => prev cx B (runT τ G cx.J c st1 .done) (List Dat ⊕ β) fun e st' => match e with
          | .normal => tm.getO B st.nt st' fun ds' => .ret (.inl ds')
          | e => .mapR (Xs τ G D R E prev cx B (k e st') β κ)).run) n ds = some r →
          ∃ s2, s.le G B s2 ∧ roundsP P τ G cx.J B c (fun e st' => T.prop P G B (fun e st => (κ e st).run = some r) (k e st')) n s2 := by
        intro n
        induction n with
        | zero => intro ds s hd h; cases h
        | succ n ihn =>
          rintro ds s ⟨s2, hle, hel⟩ h
          refine ⟨s2, hle, ?_⟩
          rw [iterN] at h
          simp only [hel] at h
          unfold roundsP
          have fin : ∀ o, (prev cx B (runT τ G cx.J c s2 .done) (List Dat ⊕ β) fun e st' => match e with
              | .normal => tm.getO B st.nt st' fun ds' => .ret (.inl ds')
              | e => .mapR (Xs τ G D R E prev cx B (k e st') β κ)).run = some o → (∀ ds', o = .inl ds' → iterN (fun ds => (tm.elimO st.nt ds fun st1 => prev cx B (runT τ G cx.J c st1 .done) (List Dat ⊕ β) fun e st' => match e with
                | .normal => tm.getO B st.nt st' fun ds' => .ret (.inl ds')
                | e => .mapR (Xs τ G D R E prev cx B (k e st') β κ)).run) n ds' = some r) → (∀ y, o = .inr y → y = r) →
              T.prop P G B (fun e s' => match e with | .normal => ∃ s2, s'.le G B s2 ∧ roundsP P τ G cx.J B c (fun e st' => T.prop P G B (fun e st => (κ e st).run = some r) (k e st')) n s2 | e => T.prop P G B (fun e st => (κ e st).run = some r) (k e s')) (runT τ G cx.J c s2 .done) := by
            intro o ho h1 h2
            refine T.mono _ ?_ (hp _ _ _ _ _ _ ho)
            intro e s' q
            have last : ∀ e, (O.mapR (Xs τ G D R E prev cx B (k e s') β κ)).run = some o → T.prop P G B (fun e st => (κ e st).run = some r) (k e s') := by
              intro e q
              obtain ⟨y, q1, q2⟩ := run_mapR q
              have := h2 y q2
              subst this
              exact ih _ _ β κ _ q1
            cases e with
            | normal =>
              obtain ⟨ds', q1, q2⟩ := getO_dec (G := G) q
              have q1 : some (Sum.inl ds') = some o := q1
              exact ihn ds' s' q2 (h1 ds' (Option.some.inj q1).symm)
            | exit i => exact last _ q
            | ret => exact last _ q
          split at h
          · rename_i ds' ho
            exact fin _ ho (fun d e => by cases e; exact h) (fun y e => by cases e)
          · rename_i y ho
            exact fin _ ho (fun d e => by cases e) (fun y e => by cases e; exact Option.some.inj h)
          · cases h
      obtain ⟨s2, hle2, hr⟩ := key n ds0 st ⟨s0, hle0, hel0⟩ hn
      constructor
      intro W0 S0 Sh ρ a W h1 h2 h3
      obtain ⟨ρ2, m0, m1, m2⟩ := hle2 _ _ _ _ _ _ h2 h3
      refine ((SLp.rounds hτ hmix n hr).out W0 S0 Sh ρ2 a W h1 m1 m2).mono ?_
      rintro e a' W' ⟨ex, st', Sh', ρ', q1, q2, q3, q4⟩
      exact ⟨ex, st', Sh', ρ', q1, q2, ExtB.trans ⟨fun _ h => h, m0, fun _ _ => rfl, fun b cs e fr h => ⟨cs, fr, h, rfl⟩⟩ q3, q4⟩
    · refine SLp.unroll hτ hmix (T.mono _ ?_ (hp _ _ _ _ _ _ h))
      intro e s' q
      cases e with
      | normal => exact hp _ _ _ _ _ _ q
      | exit i => exact ih _ _ β κ r q
      | ret => exact ih _ _ β κ r q
  | cut c st k ih =>
    intro β κ r h
    have h : (match findTm B st (firstId c + 1000000) st.next cx.tms with
      | some tm => O.bindO (prev cx B (runT τ G cx.J c st .done) (List Dat ⊕ β) fun e st' => match e with
          | .normal => tm.getO B st.nt st' fun ds' => .ret (.inl ds')
          | e => .mapR (Xs τ G D R E prev cx B (k e st') β κ)) fun x => .onR x (fun ds => tm.elimO st.nt ds fun st1 => Xs τ G D R E prev cx B (k .normal st1) β κ)
      | none => .none).run = some r := h
    split at h
    · rename_i tm htm
      obtain ⟨o, h1, h2⟩ := run_bindO h
      have h2 : onR o (fun ds => (tm.elimO st.nt ds fun st1 => Xs τ G D R E prev cx B (k .normal st1) β κ).run) = some r := h2
      have h3 := hp _ _ _ _ _ _ h1
      have goal : SWp P G B c st fun e st' => T.prop P G B (fun e st => (κ e st).run = some r) (k e st') := by
        constructor
        intro W0 S0 Sh ρ a W q1 q2 q3
        refine run_sound hτ hmix c _ _ st Sh ρ a W ⟨q1, q2, q3⟩ h3 ?_
        intro ex e s' Sh' ρ' a' W' he hk hx hs
        have last : ∀ ex, (O.mapR (Xs τ G D R E prev cx B (k ex s') β κ)).run = some o → T.prop P G B (fun e st => (κ e st).run = some r) (k ex s') := by
          intro ex q
          obtain ⟨y, p1, p2⟩ := run_mapR q
          subst p2
          have p3 : some y = some r := h2
          cases p3
          exact ih _ _ β κ _ p1
        cases ex with
        | normal =>
          obtain ⟨ds', p1, s2, hle, hel⟩ := getO_dec (G := G) hk
          have p1 : some (Sum.inl ds') = some o := p1
          cases p1
          have h2 : (tm.elimO st.nt ds' fun st1 => Xs τ G D R E prev cx B (k .normal st1) β κ).run = some r := h2
          rw [hel] at h2
          obtain ⟨ρ2, m0, m1, m2⟩ := hle _ _ _ _ _ _ hs.hr hs.tr
          exact ⟨.normal, s2, Sh', ρ2, he, ih _ _ β κ _ h2, hx.trans ⟨fun _ h => h, m0, fun _ _ => rfl, fun b cs e fr h => ⟨cs, fr, h, rfl⟩⟩, m1, m2, hs.defers⟩
        | exit i => exact ⟨_, s', Sh', ρ', he, last _ hk, hx, hs.hr, hs.tr, hs.defers⟩
        | ret => exact ⟨_, s', Sh', ρ', he, last _ hk, hx, hs.hr, hs.tr, hs.defers⟩
      exact goal
    · cases h
  | join t d k iht ih =>
    intro β κ r h
    obtain ⟨b, h1, h2⟩ := run_bindO h
    have goal : T.prop P G B (fun e st' => e = Ex.normal ∧ ∃ b, look st'.tmps d = some (.bool b) ∧ T.prop P G B (fun e st => (κ e st).run = some r) (k b)) t := by
     refine T.mono _ ?_ (iht Bool _ b h1)
     intro e st q
     split at q
     · split at q
       · rename_i b' hb
         have : b' = b := Option.some.inj q
         subst this
         exact ⟨rfl, b', hb, ih _ β κ r h2⟩
       · cases q
     · cases q
    exact goal
  | evI n k ih =>
    intro β κ r h
    have h' : (forceI n fun n => Xs τ G D R E prev cx B (k n) β κ).run = some r := h
    rw [forceI_eq] at h'
    exact ih _ β κ r h'
  | evN n k ih =>
    intro β κ r h
    have h' : (forceN n fun n => Xs τ G D R E prev cx B (k n) β κ).run = some r := h
    rw [forceN_eq] at h'
    exact ih _ β κ r h'
  | evS n k ih =>
    intro β κ r h
    have h' : (forceS n fun n => Xs τ G D R E prev cx B (k n) β κ).run = some r := h
    rw [forceS_eq] at h'
    exact ih _ β κ r h'
  | evL n k ih =>
    intro β κ r h
    have h' : (forceL n fun n => Xs τ G D R E prev cx B (k n) β κ).run = some r := h
    rw [forceL_eq] at h'
    exact ih _ β κ r h'
  | evH n k ih =>
    intro β κ r h
    have h' : (forceH n fun n => Xs τ G D R E prev cx B (k n) β κ).run = some r := h
    rw [forceH_eq] at h'
    exact ih _ β κ r h'
  | evM n k ih =>
    intro β κ r h
    have h' : (forceSt n fun n => Xs τ G D R E prev cx B (k n) β κ).run = some r := h
    rw [forceSt_eq] at h'
    exact ih _ β κ r h'

theorem X_ok (hτ : ∀ t ti, τ t = some ti → TIok P t ti) (hmix : P.follows .mixedOrders = true) (hD : DXOk P G τ D) (hR : RulesOk P G R) (hE : EOk P G E) : ∀ n, XOk P G (X τ G D R E n)
  | 0 => fun cx B t β κ r h => by cases h
  | n + 1 => Xs_ok hτ hmix hD hR hE (X_ok hτ hmix hD hR hE n)

/-- A function's data are what it does. -/
theorem fnO_ok (hτ : ∀ t ti, τ t = some ti → TIok P t ti) (hmix : P.follows .mixedOrders = true) (hD : DXOk P G τ D) (hR : RulesOk P G R) (hE : EOk P G E) {n f : Nat} {args : List Sh} {res : Sh} : FnOk P G f ⟨args, res, fun ds => (fnO τ G D R E n f args res ds).run⟩ := by
  constructor
  intro vs ds r hds h
  obtain ⟨ws, k1, k2⟩ := gets_elim hds
  have k1 := k1 []
  rw [List.append_nil] at k1
  have h : (fnO τ G D R E n f args res ds).run = some r := h
  unfold fnO at h
  rw [k1] at h
  split at h
  · rename_i c nt rs cx hd
    split at h
    · rename_i hle
      have hx := X_ok hτ hmix hD hR hE n _ _ _ _ _ _ h
      have main : ∀ x : AV, (∀ v, Sh.get [] 20 res v = some r → Mv [] v x) → FnA P G f vs x := by
        intro x hm
        refine FnA.le (args := ws) (x := x) (FnA.of_call_mv (hD f c nt rs cx hd _ ws [] 0 _ (Nat.le_of_ble_eq_true hle) (T.mono _ ?_ hx))) ?_ fun _ _ _ h => h
        · intro e st q
          unfold resQ
          split at q
          · rename_i y hy
            rw [hy]
            obtain ⟨v, q1, q2⟩ := frzO_sound _ _ _ _ q
            split at q2
            · rename_i r' hr'
              have : r' = r := Option.some.inj q2
              subst this
              exact ⟨v, q1, hm v hr'⟩
            · cases q2
          · cases q
        · intro Sh W us hu
          refine ⟨hu.1.trans k2.1.symm, fun i y v p q => ?_⟩
          have hi := (List.getElem?_eq_some_iff.1 p).1
          have hx : vs[i]? = some (vs[i]'(by have := k2.1; omega)) := List.getElem?_eq_getElem _
          exact k2.2 i _ y hx p _ _ (fun _ _ e => by cases e) Sh W v (hu.2 i _ v hx q)
      rcases elim_canon 20 res r with ⟨x, rest, hc⟩ | hc
      · refine ⟨x, main x fun v hv => elim_one hv fun β K => ?_, fun β K y hy => by rw [hc] at hy; exact hy⟩
        obtain ⟨w, k3, _⟩ := get_elim 20 res v r hv
        have k3 := k3 []
        rw [List.append_nil] at k3
        have e1 := (k3 (AV × List Dat) fun v ds => .ret (v, ds)).symm.trans (hc (AV × List Dat) fun v ds => .ret (v, ds))
        have e2 : (w, []) = (x, rest) := Option.some.inj e1
        cases e2
        exact k3 β K
      · refine ⟨default, main _ fun v hv => ?_, fun β K y hy => by rw [hc] at hy; cases hy⟩
        obtain ⟨w, k3, _⟩ := get_elim 20 res v r hv
        have k3 := k3 []
        rw [List.append_nil] at k3
        have e1 := (k3 AV fun v ds => .ret v).symm.trans (hc AV fun v ds => .ret v)
        cases e1
    · cases h
  · cases h
end
end Go.Ax
