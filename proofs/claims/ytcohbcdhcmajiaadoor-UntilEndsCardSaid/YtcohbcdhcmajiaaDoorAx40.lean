/-
  Contracts of the library: upper and lower case of ASCII text.
-/
import Derived.Test.YtcohbcdhcmajiaaDoorAx39
import Derived.Lib.Case
namespace Go.Ax
open Go.RowKit Go.Lib
set_option linter.all false
section
variable {P : Program} {G : Nat → Option (List AV)}
/-- strings.ToUpper. -/
noncomputable def strToUpper : List Dat → Option (List Dat) := fun ds => onS ds fun s _ =>
  if s.length ≤ 140737488355328 ∧ asciiB s = true then some [.s (Lib.toUpperA s)] else none
/-- strings.ToLower. -/
noncomputable def strToLower : List Dat → Option (List Dat) := fun ds => onS ds fun s _ =>
  if s.length ≤ 140737488355328 ∧ asciiB s = true then some [.s (Lib.toLowerA s)] else none
theorem strCase_ok {f : Nat} {fn : Func} {c : Code} (T : List UInt8 → List UInt8) {F : List Dat → Option (List Dat)} (hF : F = fun ds => onS ds fun s _ => if s.length ≤ 140737488355328 ∧ asciiB s = true then some [.s (T s)] else none)
    (hf : P.funcs[f]? = some fn) (hb : fn.body = some c) (hn : (fn.name == "runtime.NumGoroutine") = false)
    (hc : ∀ (s : ByteArray) (w : World), s.size ≤ 140737488355328 → (∀ (j : Nat) (b : UInt8), s.data.toList[j]? = some b → b.toNat < 128) →
      Calls P f #[.string s] w fun e w' => e = .returned (.string ⟨(T s.data.toList).toArray⟩) ∧ Below w.heap.size w w') : FnOk P G f ⟨[.str], .str, F⟩ := by
  subst hF
  refine FnOk.of_calls hf hb hn fun as ds r h1 h2 => ?_
  obtain ⟨v, vs, a, b, rfl, rfl, h3, h4⟩ := gets_cons h1
  obtain ⟨rfl, rfl⟩ := gets_nil h4
  obtain ⟨s, rfl, rfl⟩ := get_str h3
  have h2 : (if s.v.length ≤ 140737488355328 ∧ asciiB s.v = true then some [Dat.s (T s.v)] else none) = some r := h2
  split at h2
  · rename_i hi
    cases h2
    refine ⟨.str (.sym (T s.v)), fun β K y q => q, fun S W vs hGR hs hv => ?_⟩
    obtain ⟨v, rfl, h0⟩ := hv.one
    obtain ⟨sb, rfl, e1⟩ := h0.str_inv'
    have sz : ∀ {b : ByteArray} {l : List UInt8}, b.data.toList = l → b.size = l.length := fun h => by rw [← h]; simp
    refine (hc sb W (by rw [sz e1]; exact hi.1) (by rw [e1]; exact ascii_get hi.2)).mono ?_
    rintro e W' ⟨rfl, hbw⟩
    exact ⟨_, rfl, hbw, by rw [e1]; exact .str rfl⟩
  · cases h2
end
end Go.Ax
