/-
  The small abstract machine: functions of the library, by their contracts: strings.Join.
-/
import Derived.Test.YtcohbcdhcmajiaaDoorAx35
import Derived.Lib.Join
namespace Go.Ax
open Go.RowKit Go.Sort
set_option linter.unusedVariables false

section
variable {P : Program} {G : Nat → Option (List AV)}

def strsOf : List AV → Option (List (List UInt8))
  | [] => some []
  | .str s :: l => (strsOf l).map (s.v :: ·)
  | _ => none

theorem cells_strs {S : Nat → Prop} {W : World} : ∀ (cells : List AV) (vs : List Value) (xs : List (List UInt8)), strsOf cells = some xs → vs.length = cells.length →
    (∀ (i : Nat) (x : AV) (v : Value), cells[i]? = some x → vs[i]? = some v → VR S W (fun _ => none) x v) → ∃ bs : List ByteArray, vs = bs.map Value.string ∧ bs.map (·.data.toList) = xs
  | [], [], xs, h, hl, hv => by cases h; exact ⟨[], rfl, rfl⟩
  | [], _ :: _, xs, h, hl, hv => by cases hl
  | _ :: _, [], xs, h, hl, hv => by cases hl
  | c :: cells, v :: vs, xs, h, hl, hv => by
    unfold strsOf at h
    split at h
    · rename_i e; cases e
    · rename_i n l e
      cases e
      cases hb : strsOf cells with
      | none => rw [hb] at h; cases h
      | some s' =>
        rw [hb] at h
        cases h
        obtain ⟨bs, rfl, h2⟩ := cells_strs cells vs s' hb (by simpa using hl) (fun i x w p q => hv (i + 1) x w p q)
        obtain ⟨b, rfl, hb0⟩ := (hv 0 _ _ rfl rfl).str_inv'
        exact ⟨b :: bs, rfl, by rw [List.map_cons, h2, hb0]⟩
    · cases h

noncomputable def strJoin : List Dat → Option (List Dat) := fun ds =>
  onN ds fun n ds => onL ds fun l ds => onS ds fun sep _ =>
  Option.bind (strsOf l) fun xs => if l.length = n ∧ n ≤ 140737488355328 ∧ (Lib.join xs sep).length ≤ 140737488355328 then some [.s (Lib.join xs sep)] else none
theorem strsOf_len : ∀ {l : List AV} {xs : List (List UInt8)}, strsOf l = some xs → xs.length = l.length
  | [], xs, h => by cases h; rfl
  | c :: cells, xs, h => by
    unfold strsOf at h
    split at h
    · rename_i e; cases e
    · rename_i n l e
      cases e
      cases hb : strsOf cells with
      | none => rw [hb] at h; cases h
      | some s' => rw [hb] at h; cases h; simp [strsOf_len hb]
    · cases h
theorem strJoin_ok {f : Nat} {fn : Func} {c : Code} (hf : P.funcs[f]? = some fn) (hb : fn.body = some c) (hn : (fn.name == "runtime.NumGoroutine") = false)
    (h0 : ∀ (a : Option Addr) (c : Nat) (sep : ByteArray) (w : World), Calls P f #[.slice a 0 c, .string sep] w fun e w' => e = .returned (.string ⟨#[]⟩) ∧ w' = w)
    (hc : ∀ (bk o c : Nat) (xs : List ByteArray) (sep : ByteArray) (w : World), (∀ (j : Nat) x, xs[j]? = some x → w.cell? ⟨bk, o + j, none⟩ = some (.string x)) →
      bk < w.heap.size → xs.length ≤ 140737488355328 → xs.length ≤ c → (Lib.join (xs.map (·.data.toList)) sep.data.toList).length ≤ 140737488355328 →
      Calls P f #[.slice (some ⟨bk, o, none⟩) xs.length c, .string sep] w fun e w' => e = .returned (.string ⟨(Lib.join (xs.map (·.data.toList)) sep.data.toList).toArray⟩) ∧ Below w.heap.size w w') : FnOk P G f ⟨[.seq, .str], .str, strJoin⟩ := by
  refine FnOk.of_calls hf hb hn fun as ds r h1 h2 => ?_
  obtain ⟨v, vs, a, b, rfl, rfl, h3, h4⟩ := gets_cons h1
  obtain ⟨w, ws, a', b', rfl, rfl, h5, h6⟩ := gets_cons h4
  obtain ⟨rfl, rfl⟩ := gets_nil h6
  obtain ⟨m, l, rfl, hv⟩ := get_seq h3
  obtain ⟨t, rfl, rfl⟩ := get_str h5
  replace h2 : (Option.bind (strsOf l) fun xs => if l.length = m ∧ m ≤ 140737488355328 ∧ (Lib.join xs t.v).length ≤ 140737488355328 then some [Dat.s (Lib.join xs t.v)] else none) = some r := h2
  cases hs : strsOf l with
  | none => rw [hs] at h2; cases h2
  | some xs =>
    rw [hs, Option.bind_some] at h2
    split at h2
    · rename_i hl
      cases h2
      refine ⟨.str (.sym (Lib.join xs t.v)), fun β K y q => q, fun S W vs hGR hSl hvs => ?_⟩
      obtain ⟨x, y, rfl, hx1, hy1⟩ := hvs.two
      obtain ⟨sb, rfl, e1⟩ := hy1.str_inv'
      rcases (hv _ _ _ hx1).seq_inv with ⟨rfl, _, rfl⟩ | ⟨a, rfl, _, rfl⟩ | h
      · cases hs
        refine (h0 _ _ sb W).mono ?_
        rintro e W' ⟨rfl, rfl⟩
        exact ⟨_, rfl, ⟨rfl, rfl, rfl, Nat.le_refl _, fun _ _ => rfl⟩, .str rfl⟩
      · cases hs
        refine (h0 _ _ sb W).mono ?_
        rintro e W' ⟨rfl, rfl⟩
        exact ⟨_, rfl, ⟨rfl, rfl, rfl, Nat.le_refl _, fun _ _ => rfl⟩, .str rfl⟩
      · cases h with
        | list hm hn hsp hS hlen hcc hvv h1 =>
          rename_i a c m' vs
          obtain ⟨bs, rfl, h7⟩ := cells_strs l vs xs hs hlen hvv
          have hm' : m = m' := hm
          have hbl : bs.length = m' := by rw [← hm', ← hl.1, ← hlen]; simp
          obtain ⟨bk, o, sp⟩ := a
          cases hsp
          have := hc bk o c bs sb W (fun j x hj => hcc j _ (by simp [hj])) (hSl _ hS) (by omega) (by omega) (by rw [h7, e1]; exact hl.2.2)
          rw [hbl] at this
          refine this.mono ?_
          rintro e W' ⟨rfl, hbw⟩
          exact ⟨_, rfl, hbw, by rw [h7, e1]; exact .str rfl⟩
    · cases h2
end
end Go.Ax
