/-
  name.Zone: which strings are names of zones.
-/
import Derived.Test.YtgmmcmfnniaekaaDoorAxT
import Derived.Test.YtgmmcmfnniaekaaDoorHSplit
import Derived.Test.YtgmmcmfnniaekaaDoorMZalnal
import Derived.Test.YtgmmcmfnniaekaaDoorTnal
namespace Go.Proofs.YtgmmcmfnniaekaaDoor.Zo
open Go.RowKit Go.Shelf
open Go.Proofs.YtgmmcmfnniaekaaDoor
set_option linter.unusedVariables false
set_option linter.unusedSimpArgs false
attribute [local go_sem] Oper.semAt_some
def zoneV (s : List UInt8) : Bool := decide (s.length ≤ 60) && (Sp.parts 47 s).all Za.partOk
theorem callsX_calls {P : Program} {f : Nat} {vs : Array Value} {W : World} {R : Ending → World → Prop} (h : Ax.CallsX P f vs W R) (he : ∀ args w, (callFunc f args).run P w = .ok (.enter f args) w) : Calls P f vs W R := by
  rcases h with ⟨v, W', h1, h2⟩ | ⟨_, h2⟩
  · rw [he] at h1; cases h1
  · exact h2
theorem all_calls {mx : Int} {s : List UInt8} {S : Nat → Prop} {W : World} (hG : Ax.GR (Za.gl mx) S W) (hS : ∀ b, S b → b < W.heap.size) :
    Calls Tryd.prog 39 #[.string ⟨s.toArray⟩, .int .i64 1, .int .i64 14, .func (.func 40) #[] #[]] W fun e W' => e = .returned (.bool (Za.partOk s)) ∧ Below W.heap.size W W' := by
  obtain ⟨x, h1, h2⟩ := (Za.F_name_all_ok (P := Tryd.prog) (mx := mx)).out [.str (.sym s), .int .i64 (.sym 1), .int .i64 (.sym 14), .func 40 [] []] [.s s, .i 1, .i 14] [.b (Za.partOk s)] rfl Za.all_at
  have hx := h2 Bool (fun v => match v with | .bool u => .ret u | _ => .none) (Za.partOk s) rfl
  have hx : x = .bool (Za.partOk s) := by
    cases x <;> first | exact congrArg _ (Option.some.inj hx) | cases hx
  subst hx
  have hv : Ax.VRL S W (fun _ => none) [.str (.sym s), .int .i64 (.sym 1), .int .i64 (.sym 14), .func 40 [] []] [Value.string ⟨s.toArray⟩, .int .i64 1, .int .i64 14, .func (.func 40) #[] #[]] := by
    refine ⟨rfl, fun i x v p q => ?_⟩
    match i with
    | 0 => simp at p q; subst p; subst q; exact .str rfl
    | 1 => simp at p q; subst p; subst q; exact .int rfl
    | 2 => simp at p q; subst p; subst q; exact .int rfl
    | 3 => simp at p q; subst p; subst q; exact .func rfl (fun i x v p q => by simp at p) rfl (fun i x v p q => by simp at p)
    | i + 4 => simp at p
  refine (callsX_calls (h1.out S W _ hG hS hv) (enters_of Tryd.func39 (by kernel_rfl) rfl)).mono ?_
  rintro e W' ⟨v, S', rfl, hb, _, _, _, hx⟩
  cases hx
  exact ⟨rfl, hb⟩
theorem vr_one {S : Nat → Prop} {W : World} {ρ : Ax.Rho} {x : Ax.AV} {vs : List Value} (h : Ax.VRL S W ρ [x] vs) : ∃ u, vs = [u] ∧ Ax.VR S W ρ x u := by
  match vs, h with
  | [u], h => exact ⟨u, rfl, h.2 0 _ _ rfl rfl⟩
  | [], h => exact absurd h.1 (by simp)
  | _ :: _ :: _, h => exact absurd h.1 (by simp)
theorem keeps_below {n : Nat} {A B : World} (h : Below n A B) (hn : n = A.heap.size) : KeepsOthers A B :=
  ⟨h.size, fun k o hk _ => by rw [h.block k (by rw [hn]; exact (Array.getElem?_eq_some_iff.1 hk).1)]; exact hk⟩
theorem cell_putObj {W : World} {l b : Nat} (o : Obj) (h : b ≠ l) : (W.putObj l o).cell? ⟨b, 0, none⟩ = W.cell? ⟨b, 0, none⟩ ∧ (W.putObj l o).frozen? ⟨b, 0, none⟩ = W.frozen? ⟨b, 0, none⟩ := by
  constructor <;> simp only [World.cell?, World.frozen?, World.putObj_heap_other h]
theorem bfr {n : Nat} {A B : World} (h : Below n A B) {b : Nat} (hb : b < n) : B.frozen? ⟨b, 0, none⟩ = A.frozen? ⟨b, 0, none⟩ := by
  simp only [World.frozen?, h.block b hb]
theorem keeps3_t {a b c : Nat} {A B C : World} (h : Sp.Keeps3 a b c A B) (k : Sp.Keeps3 a b c B C) : Sp.Keeps3 a b c A C :=
  ⟨k.1.trans h.1, ⟨k.2.1.1.trans h.2.1.1, k.2.1.2.trans h.2.1.2⟩, k.2.2.trans h.2.2⟩
theorem keeps3_put {a b c l : Nat} {W : World} (o : Obj) (h1 : a ≠ l) (h2 : b ≠ l) (h3 : c ≠ l) : Sp.Keeps3 a b c W (W.putObj l o) :=
  ⟨(cell_putObj o h1).1, ⟨(cell_putObj o h2).1, (cell_putObj o h2).2⟩, (cell_putObj o h3).1⟩
theorem keeps3_below {a b c n : Nat} {A B : World} (h : Below n A B) (h1 : a < n) (h2 : b < n) (h3 : c < n) : Sp.Keeps3 a b c A B :=
  ⟨h.cell (p := ⟨a, 0, none⟩) h1, ⟨h.cell (p := ⟨b, 0, none⟩) h2, bfr h h2⟩, h.cell (p := ⟨c, 0, none⟩) h3⟩
theorem wc_new {W : World} {v : Value} {t : TypeId} : (W.alloc (.cells #[v] t)).cell? ⟨W.heap.size, 0, none⟩ = some v ∧ (W.alloc (.cells #[v] t)).frozen? ⟨W.heap.size, 0, none⟩ = false := by
  have h : Boxed (W.alloc (.cells #[v] t)) W.heap.size t v := Boxed.new W t v
  exact ⟨h.cell, h.frozen⟩
theorem wc_alloc {W : World} {a : Addr} {v : Value} (o : Obj) (h : W.cell? a = some v) : (W.alloc o).cell? a = some v := cell_kept h (World.grownBy_alloc W o none) (fun r e => by cases e)
theorem wc_falloc {W : World} {a : Addr} {v : Value} (o : Obj) (h : W.cell? a = some v) (hf : W.frozen? a = false) : (W.alloc o).frozen? a = false := (frozen_kept h (World.grownBy_alloc W o none) (fun r e => by cases e)).trans hf

set_option maxRecDepth 100000 in
set_option maxHeartbeats 2000000 in
theorem zone_in {mx : Int} (n : Nat) (hn : 3 ≤ n) {s : List UInt8} (hs : s.length < 4611686018427387904) {S : Nat → Prop} {w : World} (hG : Ax.GR (Za.gl mx) S w) (hS : ∀ b, S b → b < w.heap.size) :
    CallsIn Fence.wide n Tryd.prog 13 #[.string ⟨s.toArray⟩] w fun e w' => e = .returned (.bool (zoneV s)) ∧ Below w.heap.size w w' := by
  have h1 : 1 ≤ n := by omega
  have h11 : 1 ≤ n - 1 - 1 := by omega
  refine callsIn_of_wp_marks Tryd.func13 rfl trivial ?_ rfl
  simp only [Tryd.ntmps13, List.size_toArray, List.length_cons, List.length_nil, Nat.reduceAdd, Nat.reduceSub, Array.replicate_succ, Array.replicate_zero, List.push_toArray, List.append_toArray, List.nil_append, List.cons_append]
  by_cases hlong : 60 < s.length
  · have hv : zoneV s = false := by unfold zoneV; rw [decide_eq_false (by omega)]; rfl
    obtain ⟨k0, -⟩ := wc_new (W := w) (v := .bool false) (t := 4)
    gi_wp2
    refine ⟨.bool false, ?_, by rw [hv], (Below.refl _ w).alloc (Nat.le_refl _) _⟩
    simp [results, Tryd.f13, go_sem, k0]
  · gi_wp2_with (refine ⟨trivial, ?_⟩; gi_at_call 38; refine (Sp.splitSeq_maker _ (by omega) 47 s _).mono ?_; rintro e w' ⟨rfl, rfl⟩)
    obtain ⟨W0, e0⟩ : ∃ W0, W0 = w.alloc (.cells #[.bool false] 4) := ⟨_, rfl⟩
    obtain ⟨W1, e1⟩ : ∃ W1, W1 = W0.alloc (.cells #[.string ⟨s.toArray⟩] 9) := ⟨_, rfl⟩
    obtain ⟨W2, e2⟩ : ∃ W2, W2 = W1.alloc (.cells #[.string ⟨#[47]⟩] 9) := ⟨_, rfl⟩
    obtain ⟨V, e3⟩ : ∃ V, V = W2.alloc (.cells #[.int .i64 0] 3) := ⟨_, rfl⟩
    have s0 : W0.heap.size = w.heap.size + 1 := by rw [e0]; simp
    have s1 : W1.heap.size = w.heap.size + 1 + 1 := by rw [e1]; simp [s0]
    have s2 : W2.heap.size = w.heap.size + 1 + 1 + 1 := by rw [e2]; simp [s1]
    have s3 : V.heap.size = w.heap.size + 1 + 1 + 1 + 1 := by rw [e3]; simp [s2]
    have hV : Sp.W3 47 s (w.alloc (.cells #[.bool false] 4)) = V := by rw [e3, e2, e1, e0]; rfl
    obtain ⟨c0, f0⟩ := wc_new (W := w) (v := .bool false) (t := 4)
    rw [← e0] at c0 f0
    obtain ⟨c1, f1⟩ := wc_new (W := W0) (v := .string ⟨s.toArray⟩) (t := 9)
    rw [← e1, s0] at c1 f1
    obtain ⟨c2, -⟩ := wc_new (W := W1) (v := .string ⟨#[47]⟩) (t := 9)
    rw [← e2, s1] at c2
    obtain ⟨c3, -⟩ := wc_new (W := W2) (v := .int .i64 0) (t := 3)
    rw [← e3, s2] at c3
    have hB : Below w.heap.size w V := by
      rw [e3, e2, e1, e0]
      exact ((((Below.refl _ w).alloc (Nat.le_refl _) _).alloc (by simp) _).alloc (by simp; omega) _).alloc (by simp; omega) _
    have d0 : V.cell? ⟨w.heap.size, 0, none⟩ = some (.bool false) ∧ V.frozen? ⟨w.heap.size, 0, none⟩ = false := by
      have g1 := wc_alloc (.cells #[.string ⟨s.toArray⟩] 9) c0
      have q1 := wc_falloc (.cells #[.string ⟨s.toArray⟩] 9) c0 f0
      rw [← e1] at g1 q1
      have g2 := wc_alloc (.cells #[.string ⟨#[47]⟩] 9) g1
      have q2 := wc_falloc (.cells #[.string ⟨#[47]⟩] 9) g1 q1
      rw [← e2] at g2 q2
      rw [e3]
      exact ⟨wc_alloc _ g2, wc_falloc _ g2 q2⟩
    have d1 : V.cell? ⟨w.heap.size + 1, 0, none⟩ = some (.string ⟨s.toArray⟩) ∧ V.frozen? ⟨w.heap.size + 1, 0, none⟩ = false := by
      have g2 := wc_alloc (.cells #[.string ⟨#[47]⟩] 9) c1
      have q2 := wc_falloc (.cells #[.string ⟨#[47]⟩] 9) c1 f1
      rw [← e2] at g2 q2
      rw [e3]
      exact ⟨wc_alloc _ g2, wc_falloc _ g2 q2⟩
    have d2 : V.cell? ⟨w.heap.size + 1 + 1, 0, none⟩ = some (.string ⟨#[47]⟩) := by rw [e3]; exact wc_alloc _ c2
    have d3 : V.cell? ⟨w.heap.size + 1 + 1 + 1, 0, none⟩ = some (.int .i64 0) := c3
    rw [hV]
    clear hV e0 e1 e2 e3 s0 s1 s2 c0 f0 c1 f1 c2 c3 W0 W1 W2
    refine wpIn_rangeFunc_box (Bs := w.heap.size + 1) (Kp := Sp.Keeps3 (w.heap.size + 1 + 1) (w.heap.size + 1) (w.heap.size + 1 + 1 + 1)) rfl h1 (gf := 71) (lb := #[.pointer (some ⟨w.heap.size + 1 + 1, 0, none⟩), .pointer (some ⟨w.heap.size + 1, 0, none⟩), .pointer (some ⟨w.heap.size + 1 + 1 + 1, 0, none⟩)]) rfl trivial (enters_of Tryd.func71 (by kernel_rfl) rfl)
      (Sp.split_stops (n - 1) (by omega) (w.heap.size + 1 + 1) (w.heap.size + 1) (w.heap.size + 1 + 1 + 1) (by omega) (by omega) 47 s hs V (by omega) (by omega) (by omega) d2 d1.1 d1.2 d3) keeps3_t
      (fun U l o o' hl _ _ _ => keeps3_put o' (by omega) (by omega) (by omega)) (Below.refl _ _) (fun _ => rfl)
      (fun pre W => (pre.all Za.partOk = true ∧ (W.cell? ⟨w.heap.size, 0, none⟩ = some (.bool false) ∧ W.frozen? ⟨w.heap.size, 0, none⟩ = false)) ∧ (Below w.heap.size w W ∧ V.heap.size ≤ W.heap.size))
      (fun c pre W => (c = .ret ∧ pre.all Za.partOk = false ∧ W.cell? ⟨w.heap.size, 0, none⟩ = some (.bool false)) ∧ Below w.heap.size w W)
      (OwnFrom.and (Own.from (fun t A B row hs hg hr => ⟨hs.1, cell_kept hs.2.1 hg hr, (frozen_kept hs.2.1 hg hr).trans hs.2.2⟩) _) (OwnFrom.and (ownFrom_below (Nat.le_refl _) (by omega)) (fun t A B row hs hg hr => Nat.le_trans hs hg.size)))
      (fun c => OwnFrom.and (Own.from (fun t A B row hs hg hr => ⟨hs.1, hs.2.1, cell_kept hs.2.2 hg hr⟩) _) (ownFrom_below (Nat.le_refl _) (by omega)))
      (fun t U v hI => ⟨⟨hI.1.1, by rw [Sp.wc_other (by simp)]; exact hI.1.2.1, by rw [World.frozen?_setCell]; exact hI.1.2.2⟩, hI.2.1.setCell (p := ⟨w.heap.size + 1, 0, none⟩) (by simp) _, by simpa using hI.2.2⟩)
      ⟨⟨rfl, d0⟩, hB, Nat.le_refl _⟩
      (fun x => { tmps := #[.string ⟨s.toArray⟩, undef, .pointer (some ⟨w.heap.size, 0, none⟩), .string ⟨x.toArray⟩, undef, .string ⟨s.toArray⟩, .int .i64 (s.length : Int), .bool (decide ((60 : Int) < (s.length : Int))), .string ⟨s.toArray⟩,
        .func (.func 71) #[] #[.pointer (some ⟨w.heap.size + 1 + 1, 0, none⟩), .pointer (some ⟨w.heap.size + 1, 0, none⟩), .pointer (some ⟨w.heap.size + 1 + 1 + 1, 0, none⟩)], .string ⟨x.toArray⟩, undef, undef, undef, undef], defers := [] }) ?assign ?body ?done ?stop
    case assign =>
      intro l x W K hK
      gi_wp2
      exact hK
    case body =>
      rintro l pre x W ⟨⟨hp, k0, kf⟩, hBW, hVW⟩ hpl
      have hall := all_calls (mx := mx) (s := x) (S := S) (W := W) (hG.mono (fun _ h => h) (fun b hb => hBW.block b (hS b hb))) (fun b hb => Nat.lt_of_lt_of_le (hS b hb) hBW.size)
      have hlt : w.heap.size < W.heap.size := by omega
      have l1 : w.heap.size + 1 < W.heap.size := by omega
      have l2 : w.heap.size + 1 + 1 < W.heap.size := by omega
      have l3 : w.heap.size + 1 + 1 + 1 < W.heap.size := by omega
      cases hpx : Za.partOk x with
      | true =>
        rw [hpx] at hall
        gi_wp2_with (refine ⟨trivial, ?_⟩; gi_at_call 39; refine (CallsIn.inRound l (callsIn_wide.2 hall)).mono ?_; rintro e w' ⟨rfl, hb⟩; have k0' := (hb.cell (p := ⟨w.heap.size, 0, none⟩) hlt).trans k0; have kf' := (bfr hb hlt).trans kf)
        exact ⟨keeps_below hb rfl, keeps3_below hb l2 l1 l3, ⟨by rw [List.all_append, hp]; simp [hpx], k0', kf'⟩, hBW.trans (hb.mono (by omega)), Nat.le_trans hVW hb.size⟩
      | false =>
        rw [hpx] at hall
        gi_wp2_with (refine ⟨trivial, ?_⟩; gi_at_call 39; refine (CallsIn.inRound l (callsIn_wide.2 hall)).mono ?_; rintro e w' ⟨rfl, hb⟩; have k0' := (hb.cell (p := ⟨w.heap.size, 0, none⟩) hlt).trans k0; have kf' := (bfr hb hlt).trans kf)
        exact ⟨(keeps_below hb rfl).trans (KeepsOthers.setCell _ _ _), ⟨rfl, by rw [List.all_append]; simp [hpx], World.cell?_setCell_same' _ _ _ (by rw [k0']; rfl)⟩, (hBW.trans (hb.mono (by omega))).setCell (p := ⟨w.heap.size, 0, none⟩) (Nat.le_refl _) _⟩
    case done =>
      rintro D ys W hD rfl ⟨⟨hp, k0, kf⟩, hBW, hVW⟩ hK
      have hv : zoneV s = true := by unfold zoneV; rw [decide_eq_true (by omega), hp]; rfl
      gi_wp2
      have hK2 := (KeepsOthers.setCell W ⟨w.heap.size, 0, none⟩ (.bool true)).same D _ hK rfl
      refine ⟨by simp, .inl ⟨_, _, rfl, run_takeDeferred hK2, ?_⟩⟩
      have k1 := cell_kept (W := W.setCell ⟨w.heap.size, 0, none⟩ (.bool true)) (a := ⟨w.heap.size, 0, none⟩) (v := .bool true) (World.cell?_setCell_same' _ _ _ (by rw [k0]; rfl)) (grownBy_putObj' _ D (.deferred none)) (fun r e => by cases e; exact ⟨_, hK2, rfl⟩)
      refine ⟨.bool true, ?_, by rw [hv], (hBW.setCell (p := ⟨w.heap.size, 0, none⟩) (Nat.le_refl _) _).trans (belowK_b (w := V) (by omega) _ D _ _ hD hK2 rfl rfl)⟩
      simp [results, Tryd.f13, go_sem, k1]
    case stop =>
      rintro D c pre W hD hpre ⟨⟨rfl, hp, k0⟩, hBW⟩ hK
      have hv : zoneV s = false := by
        obtain ⟨r, hr⟩ := hpre
        unfold zoneV; rw [← hr, List.all_append, hp]; simp
      gi_wp2
      refine ⟨by simp, .inl ⟨_, _, rfl, run_takeDeferred hK, ?_⟩⟩
      have k1 := cell_kept k0 (grownBy_putObj' _ D (.deferred none)) (fun r e => by cases e; exact ⟨_, hK, rfl⟩)
      refine ⟨.bool false, ?_, by rw [hv], hBW.trans (belowK_b (w := V) (by omega) _ D _ _ hD hK rfl rfl)⟩
      simp [results, Tryd.f13, go_sem, k1]

/-! As a function of plain data. -/
noncomputable def zoneF : List Ax.Dat → Option (List Ax.Dat) := fun ds => Ax.onS ds fun s _ => if s.length < 4611686018427387904 then some [.b (zoneV s)] else none
theorem zone_ok {mx : Int} {G : Nat → Option (List Ax.AV)} (hG : ∀ S W, Ax.GR G S W → Ax.GR (Za.gl mx) S W) : Ax.FnOk Tryd.prog G 13 ⟨[.str], .bool, zoneF⟩ := by
  refine Ax.FnOk.of_calls (c := code13) Tryd.func13 (by kernel_rfl) (by kernel_rfl) fun xs ds r h1 h2 => ?_
  obtain ⟨v, vs, a, b, rfl, rfl, h3, h4⟩ := Ax.gets_cons h1
  obtain ⟨rfl, rfl⟩ := Ax.gets_nil h4
  obtain ⟨sx, rfl, rfl⟩ := Ax.get_str h3
  replace h2 : (if sx.v.length < 4611686018427387904 then some [Ax.Dat.b (zoneV sx.v)] else none) = some r := h2
  split at h2
  · rename_i hi
    cases h2
    refine ⟨.bool (zoneV sx.v), fun β K y q => q, fun S W vs hGR hSl hv => ?_⟩
    obtain ⟨x, rfl, hx⟩ := vr_one hv
    obtain ⟨bz, rfl, ez⟩ := hx.str_inv'
    have hbz : bz = ⟨sx.v.toArray⟩ := by
      obtain ⟨⟨l⟩⟩ := bz
      have ez : l = sx.v := ez
      rw [ez]
    subst hbz
    have key := callsIn_wide.1 (zone_in 3 (Nat.le_refl _) hi (hG _ _ hGR) hSl)
    refine key.mono ?_
    rintro e W' ⟨rfl, hbl⟩
    exact ⟨_, rfl, hbl, .bool⟩
  · cases h2
/-- Where the one table that it reads is listed. -/
theorem zone_ok1 {mx : Int} {l : List (Nat × List Ax.AV)} (h : ∀ g c, Ax.look (Za.glList mx) g = some c → Ax.look l g = some c) : Ax.FnOk Tryd.prog (Ax.look l) 13 ⟨[.str], .bool, zoneF⟩ :=
  zone_ok (mx := mx) fun S W hG g c hc => hG g c (h g c hc)
theorem look_one {k : Nat} {c : List Ax.AV} {l : List (Nat × List Ax.AV)} (h : Ax.look l k = some c) : ∀ g d, Ax.look [(k, c)] g = some d → Ax.look l g = some d := by
  intro g d hd
  unfold Ax.look at hd
  split at hd
  · rename_i e
    have e : k = g := by simpa using e
    subst e
    cases hd
    exact h
  · cases hd
end Go.Proofs.YtgmmcmfnniaekaaDoor.Zo
namespace Go.Proofs.YtgmmcmfnniaekaaDoor
noncomputable def nameZone : List Ax.Dat → Option (List Ax.Dat) := Zo.zoneF
theorem nameZone_ok {mx : Int} {l : List (Nat × List Ax.AV)} (h : ∀ g c, Ax.look (Za.glList mx) g = some c → Ax.look l g = some c) : Ax.FnOk Tryd.prog (Ax.look l) 13 ⟨[.str], .bool, nameZone⟩ := Zo.zone_ok1 h
theorem nameZone_at {s : List UInt8} (h : s.length < 4611686018427387904) : nameZone [.s s] = some [.b (Zo.zoneV s)] := if_pos h
end Go.Proofs.YtgmmcmfnniaekaaDoor
