/-
  The small abstract machine: functions of the library, by their contracts.
-/
import Derived.Test.YtcohbcdhcmajiaaDoorAx29
import Derived.Lib.ItoaNum
import Derived.Lib.ItoaMem
import Derived.Lib.LaidTab
import Derived.Lib.Index
import Derived.Lib.Bytealg
namespace Go.Ax
open Go.RowKit Go.Sort
set_option linter.unusedVariables false

section
variable {P : Program} {G : Nat → Option (List AV)}

theorem FnOk.of_calls {f : Nat} {fn : Func} {c : Code} (hf : P.funcs[f]? = some fn) (hb : fn.body = some c) (hn : (fn.name == "runtime.NumGoroutine") = false) {args : List Sh} {res : Sh} {F : List Dat → Option (List Dat)}
    (h : ∀ as ds r, getsWith (Sh.get [] 20) args as = some ds → F ds = some r → ∃ x, (∀ β (K : AV → O β) y, (Sh.elim 20 res r fun v _ => K v).run = some y → (K x).run = some y) ∧
      ∀ S W vs, GR G S W → (∀ b, S b → b < W.heap.size) → VRL S W (fun _ => none) as vs → Calls P f vs.toArray W fun e W' => ∃ v, e = .returned v ∧ Below W.heap.size W W' ∧ VR S W' (fun _ => none) x v) :
    FnOk P G f ⟨args, res, F⟩ := by
  constructor
  intro as ds r h1 h2
  obtain ⟨x, h3, h4⟩ := h as ds r h1 h2
  refine ⟨x, ⟨fun S W vs hG hs hv => .inr ⟨?_, ?_⟩⟩, h3⟩
  · have h1 : fn.name ≠ "runtime.NumGoroutine" := by simpa using hn
    simp [callFunc, hf, h1, hb]
  · refine (h4 S W vs hG hs hv).mono ?_
    rintro e W' ⟨v, rfl, hbl, hx⟩
    exact ⟨v, S, rfl, hbl, fun _ h => h, fun b h => .inl h, fun b h => Nat.lt_of_lt_of_le (hs b h) hbl.size, hx⟩

theorem below_grow_drewN (W : World) (k : Nat) (os : Array Obj) : Below W.heap.size W (grow (W.drewN k) os) := by
  refine ⟨rfl, rfl, rfl, ?_, fun b hb => ?_⟩
  · show W.heap.size ≤ (W.heap ++ os).size
    rw [Array.size_append]; exact Nat.le_add_right _ _
  · show (W.heap ++ os)[b]? = W.heap[b]?
    rw [Array.getElem?_append_left hb]

/-- One argument's shape, opened. -/
theorem gets_cons {s : Sh} {ss : List Sh} {as : List AV} {ds : List Dat} {f : Sh → AV → Option (List Dat)} (h : getsWith f (s :: ss) as = some ds) : ∃ v vs a b, as = v :: vs ∧ ds = a ++ b ∧ f s v = some a ∧ getsWith f ss vs = some b := by
  cases as with
  | nil => cases h
  | cons v vs =>
    unfold getsWith at h
    split at h
    · rename_i a b h1 h2
      cases h
      exact ⟨v, vs, a, b, rfl, rfl, h1, h2⟩
    · cases h
theorem gets_nil {as : List AV} {ds : List Dat} {f : Sh → AV → Option (List Dat)} (h : getsWith f [] as = some ds) : as = [] ∧ ds = [] := by
  cases as with
  | nil => cases h; exact ⟨rfl, rfl⟩
  | cons => cases h
theorem get_int {k : IntKind} {v : AV} {a : List Dat} {n : Nat} (h : Sh.get [] (n + 1) (.int k) v = some a) : ∃ i, v = .int k i ∧ a = [.i i.v] := by
  cases v with
  | int k' i =>
    replace h : (if k = k' then some [Dat.i i.v] else none) = some a := h
    by_cases e : k = k'
    · rw [if_pos e] at h; subst e; cases h; exact ⟨_, rfl, rfl⟩
    · rw [if_neg e] at h; cases h
  | _ => cases h
theorem get_ilit {k : IntKind} {z : Int} {v : AV} {a : List Dat} {n : Nat} (h : Sh.get [] (n + 1) (.ilit k z) v = some a) : v = .int k (.lit z) ∧ a = [] := by
  cases v with
  | int k' i =>
    cases i with
    | lit y =>
      replace h : (if k = k' ∧ z = y then some ([] : List Dat) else none) = some a := h
      by_cases e : k = k' ∧ z = y
      · rw [if_pos e] at h; obtain ⟨rfl, rfl⟩ := e; cases h; exact ⟨rfl, rfl⟩
      · rw [if_neg e] at h; cases h
    | sym => cases h
  | _ => cases h
theorem get_str {v : AV} {a : List Dat} {n : Nat} (h : Sh.get [] (n + 1) .str v = some a) : ∃ s, v = .str s ∧ a = [.s s.v] := by
  cases v with
  | str s => cases h; exact ⟨_, rfl, rfl⟩
  | _ => cases h
theorem VR.str_inv' {S : Nat → Prop} {W : World} {ρ : Rho} {s : Ax.S} {v : Value} (h : VR S W ρ (.str s) v) : ∃ b : ByteArray, v = .string b ∧ b.data.toList = s.v := by
  cases h with | str h => exact ⟨_, rfl, h⟩
theorem VR.int_inv' {S : Nat → Prop} {W : World} {ρ : Rho} {k : IntKind} {n : Ax.I} {v : Value} (h : VR S W ρ (.int k n) v) : v = .int k n.v := by
  cases h with | int h => rw [h]
theorem VRL.one {S : Nat → Prop} {W : World} {ρ : Rho} {x : AV} {vs : List Value} (h : VRL S W ρ [x] vs) : ∃ v, vs = [v] ∧ VR S W ρ x v := by
  obtain ⟨v, ws, rfl, h1, h2⟩ := h.uncons
  rw [h2.unnil]; exact ⟨v, rfl, h1⟩
theorem VRL.two {S : Nat → Prop} {W : World} {ρ : Rho} {x y : AV} {vs : List Value} (h : VRL S W ρ [x, y] vs) : ∃ v w, vs = [v, w] ∧ VR S W ρ x v ∧ VR S W ρ y w := by
  obtain ⟨v, ws, rfl, h1, h2⟩ := h.uncons
  obtain ⟨w, rfl, h3⟩ := h2.one
  exact ⟨v, w, rfl, h1, h3⟩

/-- A table of integers among the listed variables. -/
theorem tab_of_gr {S : Nat → Prop} {W : World} (hG : GR G S W) {name : String} {g : Nat} {k : IntKind} {zs : List Int} (hn : P.globalNamed name = some g) (hg : G g = some (zs.map fun z => .int k (.lit z))) : Lib.TabIs P W name k zs := by
  obtain ⟨h1, cs, e, fr, hb, hsz⟩ := hG g _ hg
  unfold Lib.TabIs World.var?
  rw [hn]
  simp only [Option.bind_some, hb]
  congr 1
  have hsz : cs.size = zs.length := by simpa using hsz
  refine Array.ext' (List.ext_getElem? fun i => ?_)
  simp only [Array.getElem?_toList, List.getElem?_map]
  cases h1 with | ref hsp hS ho hl hc hv h1 =>
  rename_i vs
  rcases Nat.lt_or_ge i zs.length with hi | hi
  · have hl : vs.length = zs.length := by simpa using hl
    have hx : vs[i]? = some (vs[i]'(by omega)) := List.getElem?_eq_getElem _
    have hz : (zs.map fun z => AV.int k (.lit z))[i]? = some (.int k (.lit zs[i])) := by simp [hi]
    have h2 := hc i _ hx
    replace h2 : W.cell? ⟨g, 0 - 0 + i, none⟩ = some vs[i] := h2
    rw [(hv i _ _ hz hx).int_inv'] at h2
    unfold World.cell? at h2
    rw [hb] at h2
    simp only [Nat.sub_self, Nat.zero_add] at h2
    simp only [List.getElem?_eq_getElem hi, Option.map_some]
    simpa [I.v] using h2
  · rw [Array.getElem?_eq_none (by omega), List.getElem?_eq_none hi]; rfl

/-! strconv.FormatInt at base 10. -/
noncomputable def formatInt : List Dat → Option (List Dat) := fun ds => onI ds fun i _ => if -9223372036854775808 ≤ i ∧ i ≤ 9223372036854775807 then some [.s (Lib.itoa i)] else none
theorem formatInt_ok {f : Nat} {fn : Func} {c : Code} (hf : P.funcs[f]? = some fn) (hb : fn.body = some c) (hn : (fn.name == "runtime.NumGoroutine") = false)
    (hc : ∀ (n : Int), -9223372036854775808 ≤ n → n ≤ 9223372036854775807 → ∀ (w : World), Lib.TabIs P w "internal/strconv.uint64pow10" .u64 Lib.pow10Tab →
      Calls P f #[.int .i64 n, .int .i64 10] w fun e w' => e = .returned (.string ⟨(Lib.itoa n).toArray⟩) ∧ ∃ k os, w' = grow (w.drewN k) os)
    {g : Nat} (hg : P.globalNamed "internal/strconv.uint64pow10" = some g) (hG : G g = some (Lib.pow10Tab.map fun z => .int .u64 (.lit z))) : FnOk P G f ⟨[.int .i64, .ilit .i64 10], .str, formatInt⟩ := by
  refine FnOk.of_calls hf hb hn fun as ds r h1 h2 => ?_
  obtain ⟨v, vs, a, b, rfl, rfl, h3, h4⟩ := gets_cons h1
  obtain ⟨w, ws, a', b', rfl, rfl, h5, h6⟩ := gets_cons h4
  obtain ⟨rfl, rfl⟩ := gets_nil h6
  obtain ⟨i, rfl, rfl⟩ := get_int h3
  obtain ⟨rfl, rfl⟩ := get_ilit h5
  have h2 : (if -9223372036854775808 ≤ i.v ∧ i.v ≤ 9223372036854775807 then some [.s (Lib.itoa i.v)] else none) = some r := h2
  split at h2
  · rename_i hi
    cases h2
    refine ⟨.str (.sym (Lib.itoa i.v)), fun β K y q => q, fun S W vs hGR hs hv => ?_⟩
    obtain ⟨v, w, rfl, hv, hw⟩ := hv.two
    rw [hv.int_inv', hw.int_inv']
    refine (hc i.v hi.1 hi.2 W (tab_of_gr hGR hg hG)).mono ?_
    rintro e W' ⟨rfl, k, os, rfl⟩
    exact ⟨_, rfl, below_grow_drewN W k os, .str rfl⟩
  · cases h2

/-! strings.Index, strings.IndexByte. -/
noncomputable def strIndex : List Dat → Option (List Dat) := fun ds => onS ds fun s ds => onS ds fun t _ => if s.length < 4294967281 then some [.i (Lib.index s t)] else none
theorem strIndex_ok {f : Nat} {fn : Func} {c : Code} (hf : P.funcs[f]? = some fn) (hb : fn.body = some c) (hn : (fn.name == "runtime.NumGoroutine") = false) {m : Int} {g : Nat} (hG : G g = some [.int .i64 (.sym m)])
    (hc : ∀ (s t : ByteArray) (w : World), s.size < 4294967281 → w.cell? ⟨g, 0, none⟩ = some (.int .i64 m) → Calls P f #[.string s, .string t] w fun e w' => e = .returned (.int .i64 (Lib.index s.data.toList t.data.toList)) ∧ w' = w) : FnOk P G f ⟨[.str, .str], .int .i64, strIndex⟩ := by
  refine FnOk.of_calls hf hb hn fun as ds r h1 h2 => ?_
  obtain ⟨v, vs, a, b, rfl, rfl, h3, h4⟩ := gets_cons h1
  obtain ⟨w, ws, a', b', rfl, rfl, h5, h6⟩ := gets_cons h4
  obtain ⟨rfl, rfl⟩ := gets_nil h6
  obtain ⟨s, rfl, rfl⟩ := get_str h3
  obtain ⟨t, rfl, rfl⟩ := get_str h5
  have h2 : (if s.v.length < 4294967281 then some [Dat.i (Lib.index s.v t.v)] else none) = some r := h2
  split at h2
  · rename_i hi
    cases h2
    refine ⟨.int .i64 (.sym (Lib.index s.v t.v)), fun β K y q => q, fun S W vs hGR hs hv => ?_⟩
    obtain ⟨v, w, rfl, hv, hw⟩ := hv.two
    obtain ⟨sb, rfl, e1⟩ := hv.str_inv'
    obtain ⟨tb, rfl, e2⟩ := hw.str_inv'
    have hcell : W.cell? ⟨g, 0, none⟩ = some (.int .i64 m) := by
      obtain ⟨h1, cs, e, fr, hb, hsz⟩ := hGR g _ hG
      cases h1 with | ref hsp hS ho hl hc hv h1 =>
      rename_i vs
      obtain ⟨v, rfl⟩ : ∃ v, vs = [v] := List.length_eq_one_iff.1 hl
      have := hc 0 v rfl
      rw [(hv 0 _ v rfl rfl).int_inv'] at this
      exact this
    refine (hc sb tb W (by have : sb.size = s.v.length := by rw [← e1]; simp
                           omega) hcell).mono ?_
    rintro e W' ⟨rfl, rfl⟩
    exact ⟨_, rfl, ⟨rfl, rfl, rfl, Nat.le_refl _, fun _ _ => rfl⟩, by rw [e1, e2]; exact .int rfl⟩
  · cases h2
noncomputable def strIndexByte : List Dat → Option (List Dat) := fun ds => onS ds fun s ds => onI ds fun c _ => some [.i (Lib.indexByte s c.toNat.toUInt8)]
theorem strIndexByte_ok {f : Nat} {fn : Func} {c : Code} (hf : P.funcs[f]? = some fn) (hb : fn.body = some c) (hn : (fn.name == "runtime.NumGoroutine") = false)
    (hc : ∀ (s : ByteArray) (c : Int) (w : World), Calls P f #[.string s, .int .u8 c] w fun e w' => e = .returned (.int .i64 (Lib.indexByte s.data.toList c.toNat.toUInt8)) ∧ w' = w) : FnOk P G f ⟨[.str, .int .u8], .int .i64, strIndexByte⟩ := by
  refine FnOk.of_calls hf hb hn fun as ds r h1 h2 => ?_
  obtain ⟨v, vs, a, b, rfl, rfl, h3, h4⟩ := gets_cons h1
  obtain ⟨w, ws, a', b', rfl, rfl, h5, h6⟩ := gets_cons h4
  obtain ⟨rfl, rfl⟩ := gets_nil h6
  obtain ⟨s, rfl, rfl⟩ := get_str h3
  obtain ⟨i, rfl, rfl⟩ := get_int h5
  cases h2
  refine ⟨.int .i64 (.sym (Lib.indexByte s.v i.v.toNat.toUInt8)), fun β K y q => q, fun S W vs hGR hs hv => ?_⟩
  obtain ⟨v, w, rfl, hv, hw⟩ := hv.two
  obtain ⟨sb, rfl, e1⟩ := hv.str_inv'
  rw [hw.int_inv']
  refine (hc sb i.v W).mono ?_
  rintro e W' ⟨rfl, rfl⟩
  exact ⟨_, rfl, ⟨rfl, rfl, rfl, Nat.le_refl _, fun _ _ => rfl⟩, by rw [e1]; exact .int rfl⟩
end
end Go.Ax
