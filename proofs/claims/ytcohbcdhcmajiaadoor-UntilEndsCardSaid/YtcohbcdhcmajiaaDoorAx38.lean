/-
  The small abstract machine: calls in the machine's own words: the buffers of package strings.
-/
import Derived.Test.YtcohbcdhcmajiaaDoorAx37
import Derived.Lib.UnsafeStr
namespace Go.Ax
open Go.RowKit
set_option linter.unusedVariables false

/-- The address of the value itself is laid down. -/
def ruleCopy (t : Nat) : Rule := fun args H n => match args with
  | [.ptr id (.lit 0)] => heapT H id fun b => if b.shut then .fail else match b.cells with
    | ⟨true, [.apt i ty, x]⟩ => if i = id ∧ ty = t then .evH (updH H id (some ⟨b.cells, false⟩)) fun H' => .done .ret ⟨1, [(0, .tuple [])], H', n⟩ else .fail
    | _ => .fail
  | _ => .fail
/-- The bytes, as a string; they are no longer used. -/
def ruleString (t e : Nat) : Rule := fun args H n => match args with
  | [.ptr id (.lit 0)] => heapT H id fun b => match b.cells with
    | ⟨true, [x, .buf j len e']⟩ => if e' = e then heapT H j fun c => if c.shut then .fail else sizeL c.cells len fun _ => .req (fun _ => decide (len.v ≤ 9223372036854775807)) fun _ => .bytes c.cells.v fun s =>
        .evH (updH H j none) fun H' => .done .ret ⟨1, [(0, .str s)], H', n⟩ else .fail
    | _ => .fail
  | _ => .fail

/-- Bytes are read. -/
theorem run_loadInts {P : Program} (w : World) (b : Nat) : ∀ (ns : List Int) (o : Nat) (acc : ByteArray), (∀ (j : Nat) (x : Int), ns[j]? = some x → w.cell? ⟨b, o + j, none⟩ = some (.int .u8 x)) →
    (Go.loadBytes ⟨b, o, none⟩ acc ns.length).run P w = .ok ⟨acc.data ++ (ns.map fun n => UInt8.ofNat n.toNat).toArray⟩ w
  | [], o, acc, _ => by simp [Go.loadBytes]
  | x :: l, o, acc, h => by
    have h0 : w.cell? ⟨b, o, none⟩ = some (.int .u8 x) := h 0 x rfl
    have ih := run_loadInts (P := P) w b l (o + 1) (acc.push x.toNat.toUInt8) (fun j y hy => by
      have := h (j + 1) y (by simpa using hy)
      rw [show o + 1 + j = o + (j + 1) by omega]; exact this)
    simp only [List.length_cons, Go.loadBytes, Sem.run_bind, run_load, h0, Result.andThen]
    rw [Addr.add_lit', ih]
    congr 1
    apply ByteArray.ext
    simp [ByteArray.push, Nat.toUInt8]
theorem run_unsafeInts {P : Program} (w : World) (pt it ty e : TypeId) (hp : P.underlying pt = some (.pointer e)) (hc : P.cellsOf e = 1) (g cells : Nat) (hsh : w.shape? g = some (e, cells)) (ns : List Int) (h0 : ns ≠ []) (hn : ns.length ≤ cells) (h63 : ns.length ≤ 9223372036854775807)
    (hcell : ∀ (j : Nat) (x : Int), ns[j]? = some x → w.cell? ⟨g, j, none⟩ = some (.int .u8 x)) :
    (Builtin.unsafeString_ #[pt, it] ty #[.pointer (some ⟨g, 0, none⟩), .int .i64 ns.length]).run P w = .ok (.string ⟨(ns.map fun n => UInt8.ofNat n.toNat).toArray⟩) (w.freeze ⟨g, 0, none⟩ ns.length) := by
  have hl : ns.length ≠ 0 := by simpa using h0
  have hlb := run_loadInts (P := P) w g ns 0 .empty (fun j x hx => by rw [Nat.zero_add]; exact hcell j x hx)
  have hlies := Lib.liesAt_bytes (P := P) hc (cells / P.cellsOf e) ns.length (by rw [hc]; simpa using hn)
  have h63' : ¬ (9223372036854775807 : Int) < (ns.length : Int) := by omega
  have hmax : IntKind.i64.max = 9223372036854775807 := rfl
  have hneg : ¬ (ns.length : Int) < 0 := by omega
  refine (Sem.run_bind ..).trans ?_
  refine (congrArg (fun r => Result.andThen r _) (show Sem.run P (asInt (.int .i64 ns.length)) w = .ok (ns.length : Int) w from rfl)).trans ?_
  rw [Result.andThen_ok]
  simp [hmax, h63', hneg, hl, variablesAt, hsh, Go.elemOf, run_underlying hp, hlies, hlb]

section
variable {P : Program} {G : Nat → Option (List AV)} {W0 : World} {S0 Sh : Nat → Prop} {ρ : Rho} {H : Heap} {n : Nat} {W : World}

/-- A block that nothing stands for turns, and keeps its size. -/
theorem HRel.turned (h : HRel G W0 S0 Sh ρ H n W) {b : Nat} {W' : World} (hw : Wrote W W' b) (hb0 : W0.heap.size ≤ b) (hS : ¬ Sh b) (hu : ∀ id x, look H id = some (some x) → ρ id ≠ some b)
    {cs cs' : Array Value} {e : TypeId} {fr fr' : Nat × Nat} (h1 : W.heap[b]? = some (.cells cs e fr)) (h2 : W'.heap[b]? = some (.cells cs' e fr')) (h3 : cs'.size = cs.size) : Ext Sh ρ W Sh ρ W' ∧ HRel G W0 S0 Sh ρ H n W' := by
  have ext : Ext Sh ρ W Sh ρ W' := ⟨fun _ h => h, fun _ _ h => h, fun k hk => hw.block k (fun q => hS (q ▸ hk)), fun k c e' f q => by
    by_cases hk : k = b
    · subst hk; rw [h1] at q; cases q; exact ⟨cs', fr', h2, h3⟩
    · exact ⟨c, f, by rw [hw.block k hk]; exact q, rfl⟩⟩
  refine ⟨ext, ⟨?_, ?_, h.inj, h.fresh, fun k hk => by rw [hw.size]; exact h.slt k hk, h.grow, h.glob.mono (fun _ h => h) ext.keep, h.dom⟩⟩
  · exact ⟨hw.os.trans h.below.os, hw.tape.trans h.below.tape, hw.output.trans h.below.output, by rw [hw.size]; exact h.below.size, fun k hk => by rw [hw.block k (by omega)]; exact h.below.block k hk⟩
  · intro id' l2 sh2 b2 hl2 hr2
    obtain ⟨c2, e2, f2, p1, p2, p3, p4, p5, p6, p7⟩ := h.blk id' l2 sh2 b2 hl2 hr2
    have hne : b2 ≠ b := fun q => hu id' _ hl2 (q ▸ hr2)
    exact ⟨c2, e2, f2, p1, by rw [hw.block b2 hne]; exact p2, p3, fun i x v p q => (p4 i x v p q).ext ext, p5, p6, p7⟩

theorem kill_none (h : HRel G W0 S0 Sh ρ H n W) {id b : Nat} {l : L} (hb : look H id = some (some ⟨l, false⟩)) (hr : ρ id = some b) : ∀ id' x, look (updH H id none) id' = some (some x) → ρ id' ≠ some b := by
  intro id' x hl' hr2
  rw [look_upd hb] at hl'
  by_cases hid : id' = id
  · rw [if_pos hid] at hl'; cases hl'
  · rw [if_neg hid] at hl'
    exact hid (h.inj id id' l x b hb hl' hr hr2).symm

theorem HRel.drew (h : HRel G W0 S0 Sh ρ H n W) : Ext Sh ρ W Sh ρ W.drew ∧ HRel G W0 S0 Sh ρ H n W.drew :=
  h.call (Below.drew (Below.refl _ W)) (fun _ h => h) (fun _ h => .inl h) (fun b q => h.slt b q)

/-- The rule, out of what the function does. -/
theorem copyRule_ok {f t : Nat} (he : ∀ args w, (callFunc f args).run P w = .ok (.enter f args) w)
    (h1 : ∀ b (w : World), w.cell? ⟨b, 0, none⟩ = some (.pointer (some ⟨b, 0, none⟩)) → Calls P f #[.pointer (some ⟨b, 0, none⟩)] w fun e w' => e = .returned (.tuple #[]) ∧ w' = w)
    (h2 : ∀ b (w : World), w.cell? ⟨b, 0, none⟩ = some (.pointer none) → w.shape? b = some (t, 2) → w.frozen? ⟨b, 0, none⟩ = false →
      Calls P f #[.pointer (some ⟨b, 0, none⟩)] w fun e w' => e = .returned (.tuple #[]) ∧ w' = w.setCell ⟨b, 0, none⟩ (.pointer (some ⟨b, 0, none⟩))) :
    ∀ args H n Q, T.prop P G n (resQ Q) (ruleCopy t args H n) → CallA P G f args H n Q := by
  intro args H n Q hh
  unfold ruleCopy at hh
  split at hh
  rotate_left
  · exact hh.elim
  rename_i id
  obtain ⟨⟨l, sh⟩, hb, hh'⟩ := heapT_inv hh
  clear hh
  have hh := hh'
  clear hh'
  dsimp only at hh
  split at hh
  · exact hh.elim
  rename_i hsh
  have hshf : sh = false := by simpa using hsh
  subst hshf
  split at hh
  rotate_left
  · exact hh.elim
  rename_i i ty x
  split at hh
  rotate_left
  · exact hh.elim
  rename_i hit
  have hQ : Q (.tuple []) (updH H id (some ⟨⟨true, [.apt i ty, x]⟩, false⟩)) n := hh
  obtain ⟨e1, e2⟩ := hit
  subst e1 e2
  constructor
  intro W0 S0 Sh ρ W vs hH hvs
  obtain ⟨v, rfl, hv⟩ := hvs.one
  clear hvs
  cases hv with
  | @ptr _ _ _ b o hr ho =>
  obtain rfl : 0 = o := ho
  obtain ⟨cs, e, fr, q1, q2, q3, q4, q5, q6, q7⟩ := hH.blk i _ false b hb hr
  obtain ⟨q7, q8⟩ := q7 rfl
  replace q3 : 2 ≤ cs.size := q3
  have hc0 : cs[0]? = some (cs[0]'(by omega)) := Array.getElem?_eq_getElem _
  have hx0 := q4 0 _ _ rfl hc0
  obtain ⟨b', cs', fr', hr', hb', hz', hv'⟩ : ∃ b' cs' fr', ρ i = some b' ∧ W.heap[b']? = some (.cells cs' ty fr') ∧ cs'.size = 2 ∧ (cs[0]'(by omega) = .pointer none ∨ cs[0]'(by omega) = .pointer (some ⟨b', 0, none⟩)) := by
    generalize cs[0]'(by omega) = c0 at hx0
    cases hx0 with | apt a b c d => exact ⟨_, _, _, a, b, c, d⟩
  obtain rfl : b = b' := by rw [hr] at hr'; exact Option.some.inj hr'
  have e3 : cs = cs' ∧ e = ty ∧ fr = fr' := by rw [q2] at hb'; cases hb'; exact ⟨rfl, rfl, rfl⟩
  obtain ⟨rfl, rfl, rfl⟩ := e3
  have hcell : W.cell? ⟨b, 0, none⟩ = some (cs[0]'(by omega)) := by rw [cell_of_row q2]; exact hc0
  refine .inr ⟨he _ _, ?_⟩
  rcases hv' with hv' | hv'
  · rw [hv'] at hcell
    refine (h2 b W hcell (by simp [World.shape?, q2, hz']) ?_).mono ?_
    · unfold World.frozen?
      simp only [q2]
      have := q8 0 (by omega)
      simp only [Bool.and_eq_false_iff, decide_eq_false_iff_not]
      rcases Nat.lt_or_ge 0 fr.1 with hh | hh
      · exact .inl (by omega)
      · exact .inr (fun q => this ⟨hh, q⟩)
    · rintro e' W' ⟨rfl, rfl⟩
      have hw : Wrote W (W.setCell ⟨b, 0, none⟩ (.pointer (some ⟨b, 0, none⟩))) b := ⟨rfl, rfl, rfl, by simp [World.setCell], fun k hk => by
        simp only [World.setCell, Array.getElem?_modify]
        rw [if_neg (fun e => hk e.symm)]⟩
      have hb2 : (W.setCell ⟨b, 0, none⟩ (.pointer (some ⟨b, 0, none⟩))).heap[b]? = some (.cells (cs.setIfInBounds 0 (.pointer (some ⟨b, 0, none⟩))) e fr) := by
        simp only [World.setCell, Array.getElem?_modify, if_true]
        rw [q2]; simp
      obtain ⟨x1, x2⟩ := hH.write (l' := ⟨true, [.apt i e, x]⟩) hb hr hw q2 hb2 (by simp) (by simpa using q3) (fun k y v p q => by
        match k with
        | 0 =>
          cases p
          have : v = .pointer (some ⟨b, 0, none⟩) := by
            rw [Array.getElem?_setIfInBounds_self_of_lt (by omega)] at q
            exact (Option.some.inj q).symm
          subst this
          exact .apt hr q2 hz' (.inr rfl)
        | k + 1 => exact q4 (k + 1) y v p (by rw [Array.getElem?_setIfInBounds_ne (by omega)] at q; exact q)) (fun k v q => by
          rcases Nat.eq_zero_or_pos k with rfl | hk
          · rw [Array.getElem?_setIfInBounds_self_of_lt (by omega)] at q
            cases q; rfl
          · rw [Array.getElem?_setIfInBounds_ne (by omega)] at q
            exact q5 k v q)
      exact ⟨_, _, _, n, Sh, ρ, rfl, hQ, x1, x2, .tuple (vs := #[]) (cells := []) rfl (fun i x v p => by simp at p)⟩
  · rw [hv'] at hcell
    refine (h1 b W hcell).mono ?_
    rintro e' W' ⟨rfl, rfl⟩
    exact ⟨_, _, _, n, Sh, ρ, rfl, hQ, Ext.refl, hH.tell (l' := ⟨true, [.apt i e, x]⟩) hb hr q2 q3 q4, .tuple (vs := #[]) (cells := []) rfl (fun i x v p => by simp at p)⟩

/-- The rule, out of what the function does. -/
theorem stringRule_ok {f t e : Nat} (he : ∀ args w, (callFunc f args).run P w = .ok (.enter f args) w)
    (h0 : ∀ b (w : World), w.cell? ⟨b, 1, none⟩ = some (.slice none 0 0) → Calls P f #[.pointer (some ⟨b, 0, none⟩)] w fun r w' => r = .returned (.string ⟨#[]⟩) ∧ w' = w.drew)
    (h1 : ∀ b g c (w : World), c ≠ 0 → w.cell? ⟨b, 1, none⟩ = some (.slice (some ⟨g, 0, none⟩) 0 c) → Calls P f #[.pointer (some ⟨b, 0, none⟩)] w fun r w' => r = .returned (.string ⟨#[]⟩) ∧ w' = w.drew)
    (h2 : ∀ b g z (w : World), b < w.heap.size → w.shape? g = some (e, z) → w.cell? ⟨b, 1, none⟩ = some (.slice (some ⟨g, 0, none⟩) 0 0) → Calls P f #[.pointer (some ⟨b, 0, none⟩)] w fun r w' => r = .returned (.string ⟨#[]⟩) ∧ ∃ o, w' = w.drew.alloc o)
    (h3 : ∀ b g z c (l : List Int) (w : World), l ≠ [] → c ≠ 0 → l.length ≤ 9223372036854775807 → l.length ≤ z → w.shape? g = some (e, z) → w.cell? ⟨b, 1, none⟩ = some (.slice (some ⟨g, 0, none⟩) l.length c) →
      (∀ (j : Nat) (x : Int), l[j]? = some x → w.cell? ⟨g, j, none⟩ = some (.int .u8 x)) → Calls P f #[.pointer (some ⟨b, 0, none⟩)] w fun r w' => r = .returned (.string ⟨(l.map fun n => UInt8.ofNat n.toNat).toArray⟩) ∧ w' = w.drew.freeze ⟨g, 0, none⟩ l.length) :
    ∀ args H n Q, T.prop P G n (resQ Q) (ruleString t e args H n) → CallA P G f args H n Q := by
  intro args H n Q hh
  unfold ruleString at hh
  split at hh
  rotate_left
  · exact hh.elim
  rename_i id
  obtain ⟨⟨l, sh⟩, hb, hh'⟩ := heapT_inv hh
  clear hh
  have hh := hh'
  clear hh'
  dsimp only at hh
  split at hh
  rotate_left
  · exact hh.elim
  rename_i x j len e'
  by_cases hee : e' = e
  rotate_left
  · rw [if_neg hee] at hh; exact hh.elim
  rw [if_pos hee] at hh
  subst hee
  obtain ⟨⟨c, shc⟩, hbc, hh'⟩ := heapT_inv hh
  clear hh
  have hh := hh'
  clear hh'
  dsimp only at hh
  split at hh
  · exact hh.elim
  rename_i hsh
  have hshf : shc = false := by simpa using hsh
  subst hshf
  obtain ⟨hll, hh⟩ := sizeL_inv hh
  obtain ⟨hmax, hh⟩ := hh
  replace hmax : len.v ≤ 9223372036854775807 := of_decide_eq_true hmax
  obtain ⟨s, hs, hh⟩ := hh
  have hQ : Q (.str s) (updH H j none) n := hh
  constructor
  intro W0 S0 Sh ρ W vs hH hvs
  obtain ⟨v, rfl, hv⟩ := hvs.one
  clear hvs
  cases hv with
  | @ptr _ _ _ b o hr ho =>
  obtain rfl : 0 = o := ho
  obtain ⟨cs, eb, fr, q1, q2, q3, q4, q5, q6, q7⟩ := hH.blk id _ sh b hb hr
  replace q3 : 2 ≤ cs.size := q3
  have hlt : b < W.heap.size := (Array.getElem?_eq_some_iff.1 q2).1
  have hc1 : cs[1]? = some (cs[1]'(by omega)) := Array.getElem?_eq_getElem _
  have hx1 := q4 1 _ _ rfl hc1
  have hcell : W.cell? ⟨b, 1, none⟩ = some (cs[1]'(by omega)) := by rw [cell_of_row q2]; exact hc1
  generalize cs[1]'(by omega) = bv at hx1 hcell
  refine .inr ⟨he _ _, ?_⟩
  have hk := hH.kill hbc
  cases hx1 with | buf hacc ht =>
  have empty : s.v = [] → ∀ W', HRel G W0 S0 Sh ρ (updH H j none) n W' → Ext Sh ρ W Sh ρ W' → ∃ x v H' n' Sh' ρ', Ending.returned (.string ⟨#[]⟩) = .returned v ∧ Q x H' n' ∧ Ext Sh ρ W Sh' ρ' W' ∧ HRel G W0 S0 Sh' ρ' H' n' W' ∧ VR Sh' W' ρ' x v :=
    fun h0 W' hW hE => ⟨_, _, _, n, Sh, ρ, rfl, hQ, hE, hW, .str (by rw [h0])⟩
  have nilS : len.v = 0 → s.v = [] := fun h0 => by
    have : c.v = [] := List.eq_nil_of_length_eq_zero (by rw [hll, h0])
    rw [this] at hs
    exact (Option.some.inj hs).symm
  rcases hacc.acc_inv with ⟨rfl, hl0⟩ | hown
  · refine (h0 b W hcell).mono ?_
    rintro r W' ⟨rfl, rfl⟩
    obtain ⟨x1, x2⟩ := hk.drew
    exact empty (nilS hl0) _ x2 x1
  · cases hown with
    | @own _ _ _ _ _ _ g cap m oo cs0 e0 fr0 hm ho2 hrj hg hcap hlen hfit =>
    subst hm
    obtain rfl : 0 = oo := ho2
    obtain ⟨csg, eg, frg, p1, p2, p3, p4, p5, p6, p7⟩ := hH.blk j c false g hbc hrj
    obtain ⟨p7, p8⟩ := p7 rfl
    obtain ⟨cst, frt, ht⟩ := ht _ _ _ _ _ rfl
    have e3 : csg = cst ∧ eg = e' ∧ frg = frt := by rw [p2] at ht; cases ht; exact ⟨rfl, rfl, rfl⟩
    obtain ⟨rfl, rfl, rfl⟩ := e3
    have hshape : W.shape? g = some (eg, csg.size) := by simp [World.shape?, p2]
    by_cases hz : len.v = 0
    · rw [hz] at hcell
      by_cases hcp : cap = 0
      · subst hcp
        refine (h2 b g _ W hlt hshape hcell).mono ?_
        rintro r W' ⟨rfl, o, rfl⟩
        obtain ⟨x1, x2⟩ := hk.drew
        obtain ⟨y1, y2⟩ := x2.grew (Grew.alloc W.drew o)
        exact empty (nilS hz) _ y2 (x1.trans y1)
      · refine (h1 b g cap W hcp hcell).mono ?_
        rintro r W' ⟨rfl, rfl⟩
        obtain ⟨x1, x2⟩ := hk.drew
        exact empty (nilS hz) _ x2 x1
    · have hvl : VRL Sh W ρ c.v (csg.toList.take c.v.length) := ⟨by simp; omega, fun i x v p q => by
        rw [List.getElem?_take] at q
        split at q
        · exact p4 i x v p (by simpa using q)
        · cases q⟩
      obtain ⟨ns, e4, e5⟩ := bytesOf_vals hs hvl
      have hnl : ns.length = len.v := by
        have := congrArg List.length e4
        rw [List.length_take, List.length_map, Array.length_toList] at this
        omega
      have hbytes : ∀ (k : Nat) (y : Int), ns[k]? = some y → W.cell? ⟨g, k, none⟩ = some (.int .u8 y) := by
        intro k y hy
        rw [cell_of_row p2]
        have hk' := (List.getElem?_eq_some_iff.1 hy).1
        have : (csg.toList.take c.v.length)[k]? = some (.int .u8 y) := by rw [e4, List.getElem?_map, hy]; rfl
        rw [List.getElem?_take, if_pos (by omega)] at this
        simpa using this
      rw [← hnl] at hcell
      refine (h3 b g _ cap ns W (fun q => hz (by rw [← hnl, q]; rfl)) (by omega) (by omega) (by omega) hshape hcell hbytes).mono ?_
      rintro r W' ⟨rfl, rfl⟩
      obtain ⟨x1, x2⟩ := hk.drew
      have hw : Wrote W.drew (W.drew.freeze ⟨g, 0, none⟩ ns.length) g := by
        unfold World.freeze
        rw [if_neg (by omega)]
        exact ⟨rfl, rfl, rfl, by simp, fun k hk => by
          simp only [Array.getElem?_modify]
          rw [if_neg (fun e => hk e.symm)]⟩
      obtain ⟨fr', hfr⟩ : ∃ fr', (W.drew.freeze ⟨g, 0, none⟩ ns.length).heap[g]? = some (.cells csg eg fr') := by
        unfold World.freeze
        rw [if_neg (by omega)]
        simp only [Array.getElem?_modify, if_true]
        rw [show W.drew.heap[g]? = some (.cells csg eg frg) from p2]
        exact ⟨_, rfl⟩
      obtain ⟨y1, y2⟩ := x2.turned hw p1 p7 (kill_none hH hbc hrj) (show W.drew.heap[g]? = some (.cells csg eg frg) from p2) hfr rfl
      exact ⟨_, _, _, n, Sh, ρ, rfl, hQ, x1.trans y1, y2, .str (by rw [e5])⟩
end
end Go.Ax
