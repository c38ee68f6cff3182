/-
  The small abstract machine: functions of the library, by their contracts: strings.Count, ContainsAny, Repeat.
-/
import Derived.Test.YtcohbcdhcmajiaaDoorAx38
import Derived.Lib.IndexAny
import Derived.Lib.Repeat
namespace Go.Ax
open Go.RowKit Go.Sort
set_option linter.unusedVariables false

section
variable {P : Program} {G : Nat → Option (List AV)}

/-- strings.Count of one byte. -/
noncomputable def strCount1 : List Dat → Option (List Dat) := fun ds => onS ds fun s ds => onS ds fun t _ => match t with
  | [c] => some [.i (Lib.countByte s c)]
  | _ => none
theorem strCount1_ok {f : Nat} {fn : Func} {c : Code} (hf : P.funcs[f]? = some fn) (hb : fn.body = some c) (hn : (fn.name == "runtime.NumGoroutine") = false)
    (hc : ∀ (s : ByteArray) (c : UInt8) (w : World), Calls P f #[.string s, .string ⟨#[c]⟩] w fun e w' => e = .returned (.int .i64 (Lib.countByte s.data.toList c)) ∧ w' = w) : FnOk P G f ⟨[.str, .str], .int .i64, strCount1⟩ := by
  refine FnOk.of_calls hf hb hn fun as ds r h1 h2 => ?_
  obtain ⟨v, vs, a, b, rfl, rfl, h3, h4⟩ := gets_cons h1
  obtain ⟨w, ws, a', b', rfl, rfl, h5, h6⟩ := gets_cons h4
  obtain ⟨rfl, rfl⟩ := gets_nil h6
  obtain ⟨s, rfl, rfl⟩ := get_str h3
  obtain ⟨t, rfl, rfl⟩ := get_str h5
  have h2 : (match t.v with | [c] => some [Dat.i (Lib.countByte s.v c)] | _ => none) = some r := h2
  split at h2
  · rename_i c0 ht
    cases h2
    refine ⟨.int .i64 (.sym (Lib.countByte s.v c0)), fun β K y q => q, fun S W vs hGR hs hv => ?_⟩
    obtain ⟨v, w, rfl, hv, hw⟩ := hv.two
    obtain ⟨sb, rfl, e1⟩ := hv.str_inv'
    obtain ⟨tb, rfl, e2⟩ := hw.str_inv'
    have e3 : tb = ⟨#[c0]⟩ := by
      obtain ⟨d⟩ := tb
      have e2 : d.toList = [c0] := e2.trans ht
      congr 1
      apply Array.ext'
      exact e2
    subst e3
    refine (hc sb c0 W).mono ?_
    rintro e W' ⟨rfl, rfl⟩
    exact ⟨_, rfl, Below.refl _ _, by rw [e1]; exact .int rfl⟩
  · cases h2

def asciiB (s : List UInt8) : Bool := s.all fun c => decide (c.toNat < 128)
theorem ascii_get {s : List UInt8} (h : asciiB s = true) (j : Nat) (b : UInt8) (hj : s[j]? = some b) : b.toNat < 128 :=
  of_decide_eq_true (List.all_eq_true.1 h b (List.mem_of_getElem? hj))
/-- strings.ContainsAny. -/
noncomputable def strContainsAny : List Dat → Option (List Dat) := fun ds => onS ds fun s ds => onS ds fun t _ =>
  if s.length < 4294967281 ∧ t.length < 4294967281 ∧ asciiB s = true ∧ asciiB t = true then some [.b (Lib.containsAny s t)] else none
theorem strContainsAny_ok {f : Nat} {fn : Func} {c : Code} (hf : P.funcs[f]? = some fn) (hb : fn.body = some c) (hn : (fn.name == "runtime.NumGoroutine") = false)
    (hc : ∀ (s t : ByteArray) (w : World), s.size < 4294967281 → t.size < 4294967281 → (∀ (j : Nat) b, s.data.toList[j]? = some b → b.toNat < 128) → (∀ (j : Nat) b, t.data.toList[j]? = some b → b.toNat < 128) →
      Calls P f #[.string s, .string t] w fun e w' => e = .returned (.bool (Lib.containsAny s.data.toList t.data.toList)) ∧ Below w.heap.size w w') : FnOk P G f ⟨[.str, .str], .bool, strContainsAny⟩ := by
  refine FnOk.of_calls hf hb hn fun as ds r h1 h2 => ?_
  obtain ⟨v, vs, a, b, rfl, rfl, h3, h4⟩ := gets_cons h1
  obtain ⟨w, ws, a', b', rfl, rfl, h5, h6⟩ := gets_cons h4
  obtain ⟨rfl, rfl⟩ := gets_nil h6
  obtain ⟨s, rfl, rfl⟩ := get_str h3
  obtain ⟨t, rfl, rfl⟩ := get_str h5
  have h2 : (if s.v.length < 4294967281 ∧ t.v.length < 4294967281 ∧ asciiB s.v = true ∧ asciiB t.v = true then some [Dat.b (Lib.containsAny s.v t.v)] else none) = some r := h2
  split at h2
  · rename_i hi
    cases h2
    refine ⟨.bool (Lib.containsAny s.v t.v), fun β K y q => q, fun S W vs hGR hs hv => ?_⟩
    obtain ⟨v, w, rfl, hv, hw⟩ := hv.two
    obtain ⟨sb, rfl, e1⟩ := hv.str_inv'
    obtain ⟨tb, rfl, e2⟩ := hw.str_inv'
    have sz : ∀ {b : ByteArray} {l : List UInt8}, b.data.toList = l → b.size = l.length := fun h => by rw [← h]; simp
    refine (hc sb tb W (by rw [sz e1]; exact hi.1) (by rw [sz e2]; exact hi.2.1) (by rw [e1]; exact ascii_get hi.2.2.1) (by rw [e2]; exact ascii_get hi.2.2.2)).mono ?_
    rintro e W' ⟨rfl, hbw⟩
    exact ⟨_, rfl, hbw, by rw [e1, e2]; exact .bool⟩
  · cases h2

/-- strings.IndexAny. -/
noncomputable def strIndexAny : List Dat → Option (List Dat) := fun ds => onS ds fun s ds => onS ds fun t _ =>
  if s.length < 4294967281 ∧ t.length < 4294967281 ∧ asciiB s = true ∧ asciiB t = true then some [.i (Lib.indexAny s t)] else none
theorem strIndexAny_ok {f : Nat} {fn : Func} {c : Code} (hf : P.funcs[f]? = some fn) (hb : fn.body = some c) (hn : (fn.name == "runtime.NumGoroutine") = false)
    (hc : ∀ (s t : ByteArray) (w : World), s.size < 4294967281 → t.size < 4294967281 → (∀ (j : Nat) b, s.data.toList[j]? = some b → b.toNat < 128) → (∀ (j : Nat) b, t.data.toList[j]? = some b → b.toNat < 128) →
      Calls P f #[.string s, .string t] w fun e w' => e = .returned (.int .i64 (Lib.indexAny s.data.toList t.data.toList)) ∧ Below w.heap.size w w') : FnOk P G f ⟨[.str, .str], .int .i64, strIndexAny⟩ := by
  refine FnOk.of_calls hf hb hn fun as ds r h1 h2 => ?_
  obtain ⟨v, vs, a, b, rfl, rfl, h3, h4⟩ := gets_cons h1
  obtain ⟨w, ws, a', b', rfl, rfl, h5, h6⟩ := gets_cons h4
  obtain ⟨rfl, rfl⟩ := gets_nil h6
  obtain ⟨s, rfl, rfl⟩ := get_str h3
  obtain ⟨t, rfl, rfl⟩ := get_str h5
  have h2 : (if s.v.length < 4294967281 ∧ t.v.length < 4294967281 ∧ asciiB s.v = true ∧ asciiB t.v = true then some [Dat.i (Lib.indexAny s.v t.v)] else none) = some r := h2
  split at h2
  · rename_i hi
    cases h2
    refine ⟨.int .i64 (.sym (Lib.indexAny s.v t.v)), fun β K y q => q, fun S W vs hGR hs hv => ?_⟩
    obtain ⟨v, w, rfl, hv, hw⟩ := hv.two
    obtain ⟨sb, rfl, e1⟩ := hv.str_inv'
    obtain ⟨tb, rfl, e2⟩ := hw.str_inv'
    have sz : ∀ {b : ByteArray} {l : List UInt8}, b.data.toList = l → b.size = l.length := fun h => by rw [← h]; simp
    refine (hc sb tb W (by rw [sz e1]; exact hi.1) (by rw [sz e2]; exact hi.2.1) (by rw [e1]; exact ascii_get hi.2.2.1) (by rw [e2]; exact ascii_get hi.2.2.2)).mono ?_
    rintro e W' ⟨rfl, hbw⟩
    exact ⟨_, rfl, hbw, by rw [e1, e2]; exact .int rfl⟩
  · cases h2

/-- strings.Repeat. -/
noncomputable def strRepeat : List Dat → Option (List Dat) := fun ds => onS ds fun s ds => onI ds fun n _ =>
  if 0 ≤ n ∧ n ≤ 9223372036854775807 ∧ s.length * n.toNat ≤ 140737488355328 then some [.s (Lib.repeatL s n.toNat)] else none
theorem strRepeat_ok {f : Nat} {fn : Func} {c : Code} (hf : P.funcs[f]? = some fn) (hb : fn.body = some c) (hn : (fn.name == "runtime.NumGoroutine") = false)
    (hc : ∀ (s : ByteArray) (n : Nat) (w : World), n ≤ 9223372036854775807 → s.size * n ≤ 140737488355328 →
      Calls P f #[.string s, .int .i64 n] w fun e w' => e = .returned (.string ⟨(Lib.repeatL s.data.toList n).toArray⟩) ∧ Below w.heap.size w w') : FnOk P G f ⟨[.str, .int .i64], .str, strRepeat⟩ := by
  refine FnOk.of_calls hf hb hn fun as ds r h1 h2 => ?_
  obtain ⟨v, vs, a, b, rfl, rfl, h3, h4⟩ := gets_cons h1
  obtain ⟨w, ws, a', b', rfl, rfl, h5, h6⟩ := gets_cons h4
  obtain ⟨rfl, rfl⟩ := gets_nil h6
  obtain ⟨s, rfl, rfl⟩ := get_str h3
  obtain ⟨i, rfl, rfl⟩ := get_int h5
  have h2 : (if 0 ≤ i.v ∧ i.v ≤ 9223372036854775807 ∧ s.v.length * i.v.toNat ≤ 140737488355328 then some [Dat.s (Lib.repeatL s.v i.v.toNat)] else none) = some r := h2
  split at h2
  · rename_i hi
    cases h2
    refine ⟨.str (.sym (Lib.repeatL s.v i.v.toNat)), fun β K y q => q, fun S W vs hGR hs hv => ?_⟩
    obtain ⟨v, w, rfl, hv, hw⟩ := hv.two
    obtain ⟨sb, rfl, e1⟩ := hv.str_inv'
    rw [hw.int_inv']
    have sz : sb.size = s.v.length := by rw [← e1]; simp
    have := hc sb i.v.toNat W (by omega) (by rw [sz]; exact hi.2.2)
    rw [Int.toNat_of_nonneg hi.1] at this
    refine this.mono ?_
    rintro e W' ⟨rfl, hbw⟩
    exact ⟨_, rfl, hbw, by rw [e1]; exact .str rfl⟩
  · cases h2
end
end Go.Ax
