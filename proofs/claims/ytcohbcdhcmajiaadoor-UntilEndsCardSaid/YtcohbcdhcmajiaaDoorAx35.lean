/-
  The small abstract machine: functions of the library that have no body.
-/
import Derived.Test.YtcohbcdhcmajiaaDoorAx30
import Derived.Lib.BytesEntry
import Derived.Laws.Externs
namespace Go.Ax
open Go.RowKit Go.Sort
set_option linter.unusedVariables false

section
variable {P : Program} {G : Nat → Option (List AV)}

theorem FnOk.of_extern {f : Nat} {args : List Sh} {res : Sh} {F : List Dat → Option (List Dat)}
    (h : ∀ as ds r, getsWith (Sh.get [] 20) args as = some ds → F ds = some r → ∃ x, (∀ β (K : AV → O β) y, (Sh.elim 20 res r fun v _ => K v).run = some y → (K x).run = some y) ∧
      ∀ S W vs, VRL S W (fun _ => none) as vs → ∃ v, (callFunc f vs.toArray).run P W = .ok (.value v) W ∧ VR S W (fun _ => none) x v) :
    FnOk P G f ⟨args, res, F⟩ := by
  constructor
  intro as ds r h1 h2
  obtain ⟨x, h3, h4⟩ := h as ds r h1 h2
  refine ⟨x, ⟨fun S W vs hG hs hv => ?_⟩, h3⟩
  obtain ⟨v, h5, h6⟩ := h4 S W vs hv
  exact .inl ⟨v, W, h5, v, S, rfl, ⟨rfl, rfl, rfl, Nat.le_refl _, fun _ _ => rfl⟩, fun _ h => h, fun b h => .inl h, fun b h => hs b h, h6⟩

/-- Cells of bytes are numbers. -/
theorem cells_ints {S : Nat → Prop} {W : World} : ∀ (cells : List AV) (vs : List Value) (s : List UInt8), bytesOf cells = some s → vs.length = cells.length →
    (∀ (i : Nat) (x : AV) (v : Value), cells[i]? = some x → vs[i]? = some v → VR S W (fun _ => none) x v) → ∃ xs : List Int, vs = xs.map (fun z => Value.int .u8 z) ∧ Lib.bytesOf xs = s
  | [], [], s, h, hl, hv => by cases h; exact ⟨[], rfl, rfl⟩
  | [], _ :: _, s, h, hl, hv => by cases hl
  | _ :: _, [], s, h, hl, hv => by cases hl
  | c :: cells, v :: vs, s, h, hl, hv => by
    unfold bytesOf at h
    split at h
    · rename_i e; cases e
    · rename_i n l e
      cases e
      cases hb : bytesOf cells with
      | none => rw [hb] at h; cases h
      | some s' =>
        rw [hb] at h
        cases h
        obtain ⟨xs, rfl, h2⟩ := cells_ints cells vs s' hb (by simpa using hl) (fun i x w p q => hv (i + 1) x w p q)
        have hv0 := (hv 0 _ _ rfl rfl).int_inv'
        subst hv0
        refine ⟨n.v :: xs, rfl, ?_⟩
        unfold Lib.bytesOf at h2 ⊢
        rw [List.map_cons, h2]
    · cases h

/-- The bytes of a slice. -/
theorem seq_bytes {S : Nat → Prop} {W : World} {n : Ax.N} {cells : List AV} {v : Value} {s : List UInt8} (h : VR S W (fun _ => none) (.seq n cells) v) (hb : bytesOf cells = some s) (hl : cells.length = n.v) :
    ∃ b : ByteArray, (Extern.Bytes.bytesOf v).run P W = .ok b W ∧ b.data.toList = s := by
  rcases h.seq_inv with ⟨rfl, _, rfl⟩ | ⟨a, rfl, _, rfl⟩ | h
  · cases hb; exact ⟨.empty, rfl, rfl⟩
  · cases hb; exact ⟨.empty, rfl, rfl⟩
  · cases h with
    | list hm hn hsp hS hlen hc hv h1 =>
      rename_i a c m vs
      obtain ⟨xs, rfl, h2⟩ := cells_ints cells vs s hb hlen hv
      have hx : xs.length = m := by rw [← hm, ← hl, ← hlen]; simp
      have hr := Lib.run_loadBytesX (P := P) W xs a .empty (fun j x hj => by
        have e : a.add j = ⟨a.block, a.off + j, none⟩ := by
          obtain ⟨b, o, sp⟩ := a
          cases hsp
          unfold Addr.add; split <;> simp_all
        rw [e]
        exact hc j _ (by simp [hj]))
      rw [hx] at hr
      exact ⟨_, hr, by simp [h2]⟩

/-! internal/bytealg.Compare -/
noncomputable def bytesCompare : List Dat → Option (List Dat) := fun ds =>
  onN ds fun an ds => onL ds fun al ds => onN ds fun bn ds => onL ds fun bl _ =>
  if al.length = an ∧ bl.length = bn then Option.bind (bytesOf al) fun s => Option.bind (bytesOf bl) fun t => some [.i (Lib.compareBytes s t)] else none
theorem get_seq {v : AV} {a : List Dat} {n : Nat} (h : Sh.get [] (n + 1) .seq v = some a) : ∃ (m : Nat) (l : List AV), a = [.n m, .l l] ∧ ∀ S W w, VR S W (fun _ => none) v w → VR S W (fun _ => none) (.seq (.sym m) l) w := by
  cases v with
  | nil => cases h; exact ⟨0, [], rfl, fun S W w q => .seq (.nil rfl) q⟩
  | empty => cases h; exact ⟨0, [], rfl, fun S W w q => .seq (.empty rfl) q⟩
  | list k b c =>
    cases h
    refine ⟨k.v, c, rfl, fun S W w q => ?_⟩
    cases q with | list hm a1 a2 a3 a4 a5 a6 a7 => exact .seq (.list (lit := b) rfl) (.list (n := .sym k.v) hm a1 a2 a3 a4 a5 a6 a7)
  | seq k c =>
    cases h
    refine ⟨k.v, c, rfl, fun S W w q => ?_⟩
    rcases q.seq_inv with ⟨rfl, e1, rfl⟩ | ⟨a, rfl, e1, rfl⟩ | q
    · exact .seq (.nil e1) .nil
    · exact .seq (.empty e1) .empty
    · cases q with | list hm a1 a2 a3 a4 a5 a6 a7 => exact .seq (.list (lit := false) rfl) (.list (n := .sym k.v) hm a1 a2 a3 a4 a5 a6 a7)
  | _ => cases h
theorem bytesCompare_ok {f : Nat} {fn : Func} (hf : P.funcs[f]? = some fn) (hn : (fn.name == "runtime.NumGoroutine") = false) (hb : fn.body.isNone = true) (hx : Extern.findNext fn = none) (he : Extern.find fn = some Extern.BytealgCompare.compare) :
    FnOk P G f ⟨[.seq, .seq], .int .i64, bytesCompare⟩ := by
  refine FnOk.of_extern fun as ds r h1 h2 => ?_
  obtain ⟨v, vs, a, b, rfl, rfl, h3, h4⟩ := gets_cons h1
  obtain ⟨w, ws, a', b', rfl, rfl, h5, h6⟩ := gets_cons h4
  obtain ⟨rfl, rfl⟩ := gets_nil h6
  obtain ⟨m, l, rfl, hv⟩ := get_seq h3
  obtain ⟨m', l', rfl, hw⟩ := get_seq h5
  replace h2 : (if l.length = m ∧ l'.length = m' then Option.bind (bytesOf l) fun s => Option.bind (bytesOf l') fun t => some [Dat.i (Lib.compareBytes s t)] else none) = some r := h2
  split at h2
  · rename_i hl
    cases hs : bytesOf l with
    | none => rw [hs] at h2; cases h2
    | some s =>
      cases ht : bytesOf l' with
      | none => rw [hs, ht] at h2; cases h2
      | some t =>
        rw [hs, ht] at h2
        cases h2
        refine ⟨.int .i64 (.sym (Lib.compareBytes s t)), fun β K y q => q, fun S W vs hvs => ?_⟩
        obtain ⟨x, y, rfl, hx1, hy1⟩ := hvs.two
        obtain ⟨b1, r1, e1⟩ := seq_bytes (P := P) (hv _ _ _ hx1) hs hl.1
        obtain ⟨b2, r2, e2⟩ := seq_bytes (P := P) (hw _ _ _ hy1) ht hl.2
        refine ⟨.int .i64 (Lib.compareBytes s t), ?_, .int rfl⟩
        rw [run_callFunc_extern hf hn hb hx he]
        have : (Extern.BytealgCompare.compare #[x, y]).run P W = .ok (.int .i64 (Lib.compareBytes s t)) W := by
          change Sem.run P (do pure (goInt (Extern.BytealgCompare.cmp (← Extern.Bytes.bytesOf x) (← Extern.Bytes.bytesOf y)))) W = _
          simp only [Sem.run_bind, Sem.run_pure, r1, r2, Result.andThen]
          rw [Lib.cmp_eq, e1, e2]; rfl
        show ((Extern.BytealgCompare.compare #[x, y]).run P W).andThen _ = _
        rw [this]; rfl
  · cases h2
end
end Go.Ax
