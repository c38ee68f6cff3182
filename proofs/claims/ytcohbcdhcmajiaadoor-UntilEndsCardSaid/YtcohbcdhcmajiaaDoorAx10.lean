/-
  The small abstract machine: all operations that leave the memory as it is.
-/
import Derived.Test.YtcohbcdhcmajiaaDoorAx9
namespace Go.Ax
open Go.RowKit
set_option linter.unusedVariables false

section
variable {P : Program} {G : Nat → Option (List AV)} {B : Nat} {Q : Ex → St → Prop} {τ : Tys}

theorem run_v {s : Sem Value} {v : Value} {W W' : World} (h : s.run P W = .ok v W') : (do pure (Next.value (← s)) : Sem Next).run P W = .ok (.value v) W' := by
  rw [Sem.run_bind, h]; rfl

theorem VR.ref_inv {Sh W ρ lit cells off v} (h : VR Sh W ρ (.ref lit cells off) v) : ∃ (a : Addr) (vs : List Value), v = .pointer (some a) ∧ a.spot = none ∧ Sh a.block ∧ off.v ≤ a.off ∧ vs.length = cells.length ∧
    (∀ (i : Nat) (v : Value), vs[i]? = some v → W.cell? ⟨a.block, a.off - off.v + i, none⟩ = some v) ∧ (∀ (i : Nat) (x : AV) (v : Value), cells[i]? = some x → vs[i]? = some v → VR Sh W (fun _ => none) x v) ∧ ∀ v ∈ vs, v.oneCell' = true := by
  cases h with | ref h1 h2 h3 h4 h5 h6 h7 => exact ⟨_, _, rfl, h1, h2, h3, h4, h5, h6, h7⟩
theorem VR.agg_inv {Sh W ρ b l v} (h : VR Sh W ρ (.agg b l) v) : ∃ vs : Array Value, v = .agg vs ∧ vs.size = l.length ∧ (∀ (i : Nat) (x : AV) (v : Value), l[i]? = some x → vs[i]? = some v → VR Sh W ρ x v) ∧ ∀ (i : Nat) (v : Value), vs[i]? = some v → v.oneCell' = true := by
  cases h with | agg h1 h2 h3 => exact ⟨_, rfl, h1, h2, h3⟩
theorem VR.int_inv {Sh W ρ k n v} (h : VR Sh W ρ (.int k n) v) : v = .int k n.v := by cases h with | int h => rw [h]
theorem VR.ptr_inv {Sh W ρ id off v} (h : VR Sh W ρ (.ptr id off) v) : ∃ b, ρ id = some b ∧ v = .pointer (some ⟨b, off.v, none⟩) := by cases h with | ptr h1 h2 => exact ⟨_, h1, by rw [h2]⟩

theorem optBV {s : St} {a : Act} {Sh W ρ nt} (hG : GR G Sh W) (ht : TR Sh W ρ nt s.tmps a.tmps) {lo : Option Operand} {l : Option I} (h : ints [lo.bind (s.ev G)] = some [l]) (hs : lo.isSome = l.isSome) : BV l (lo.map a.eval) := by
  rcases ints_one h with ⟨h1, rfl⟩ | ⟨k, i, h1, rfl⟩
  · cases lo with
    | none => trivial
    | some x => simp at hs
  · cases lo with
    | none => simp at h1
    | some x =>
      exact ⟨k, (ev_sound hG ht (show s.ev G x = some (.int k i) from h1)).int_inv⟩

theorem val_sound (hτ : ∀ t ti, τ t = some ti → TIok P t ti) {o : Oper} {s : St} {K} (h : (T.prop P G B Q (valT τ G o s K))) : ∃ x, (T.prop P G B Q (K x)) ∧ ValOk P G o s x := by
  unfold valT at h
  split at h
  · -- move
    rename_i x ho
    split at h
    · rename_i v hv
      exact ⟨v, h, fun Sh W ρ nt a hG hL ht => ⟨_, by rw [execOp, ho]; rfl, ev_sound hG ht hv⟩⟩
    · exact h.elim
  · -- assign
    rename_i x ho
    split at h
    · rename_i v hv
      exact ⟨v, h, fun Sh W ρ nt a hG hL ht => ⟨_, by rw [execOp, ho]; rfl, ev_sound hG ht hv⟩⟩
    · exact h.elim
  · -- pick
    rename_i c x y ho
    split at h
    · rename_i r hc
      cases r with
      | true =>
        have h := h.1 rfl
        dsimp only at h
        split at h
        · rename_i v hv
          refine ⟨v, h, fun Sh W ρ nt a hG hL ht => ⟨a.eval x, ?_, ev_sound hG ht hv⟩⟩
          have := ev_sound hG ht hc
          cases hcv : a.eval c <;> rw [hcv] at this <;> cases this
          simp [execOp, ho, hcv, asBool]
        · exact h.elim
      | false =>
        have h := h.2 rfl
        dsimp only at h
        split at h
        · rename_i v hv
          refine ⟨v, h, fun Sh W ρ nt a hG hL ht => ⟨a.eval y, ?_, ev_sound hG ht hv⟩⟩
          have := ev_sound hG ht hc
          cases hcv : a.eval c <;> rw [hcv] at this <;> cases this
          simp [execOp, ho, hcv, asBool]
        · exact h.elim
    · exact h.elim
  · -- load
    rename_i t x ho
    split at h
    · rename_i v hv
      obtain ⟨y, hy, hk⟩ := load_sound hτ h
      refine ⟨y, hy, fun Sh W ρ nt a hG hL ht => ?_⟩
      obtain ⟨v', r1, r2⟩ := hk Sh W ρ _ hL (ev_sound hG ht hv)
      exact ⟨v', by rw [execOp, ho]; exact run_v r1, r2⟩
    · exact h.elim
  · -- nilCheck
    rename_i x ho
    split at h
    · rename_i id off hv
      refine ⟨_, h, fun Sh W ρ nt a hG hL ht => ?_⟩
      have := ev_sound hG ht hv
      refine ⟨_, ?_, this⟩
      cases hcv : a.eval x <;> rw [hcv] at this <;> cases this
      simp [execOp, ho, hcv]
    · rename_i b c off hv
      refine ⟨_, h, fun Sh W ρ nt a hG hL ht => ?_⟩
      have := ev_sound hG ht hv
      refine ⟨_, ?_, this⟩
      cases hcv : a.eval x <;> rw [hcv] at this <;> cases this
      simp [execOp, ho, hcv]
    · rename_i f b c hv
      refine ⟨_, h, fun Sh W ρ nt a hG hL ht => ?_⟩
      have := ev_sound hG ht hv
      refine ⟨_, ?_, this⟩
      cases hcv : a.eval x <;> rw [hcv] at this <;> cases this
      simp [execOp, ho, hcv]
    · exact h.elim
  · -- binOp
    rename_i op t x y _ ho
    split at h
    · rename_i va vb hva hvb
      obtain ⟨r, hr, hk⟩ := bin_sound hτ h
      refine ⟨r, hr, fun Sh W ρ nt a hG hL ht => ?_⟩
      obtain ⟨v, r1, r2⟩ := hk Sh W ρ _ _ x y (ev_sound hG ht hva) (ev_sound hG ht hvb)
      exact ⟨v, by rw [execOp, ho]; exact run_v r1, r2⟩
    · exact h.elim
  · -- unOp
    rename_i op t x ho
    split at h
    · rename_i va hva
      obtain ⟨r, hr, hk⟩ := un_sound h
      refine ⟨r, hr, fun Sh W ρ nt a hG hL ht => ?_⟩
      obtain ⟨v, r1, r2⟩ := hk Sh W ρ _ (ev_sound hG ht hva)
      exact ⟨v, by rw [execOp, ho]; exact run_v r1, r2⟩
    · exact h.elim
  · -- convert
    rename_i src dst x ho
    split at h
    · rename_i n lit c hv
      split at h
      · rename_i hk
        simp only [Bool.and_eq_true] at hk
        obtain ⟨r, hr, hq⟩ := str_sound hτ (Q := Q) hk.1 hk.2 h (fun Sh W ρ a ha => by cases ha; exact ⟨_, _, _, rfl⟩)
        refine ⟨r, hr, fun Sh W ρ nt a hG hL ht => ?_⟩
        obtain ⟨v, r1, r2⟩ := hq Sh W ρ _ hL (ev_sound hG ht hv)
        exact ⟨v, by rw [execOp, ho]; exact run_v r1, r2⟩
      · exact h.elim
    · rename_i n c hv
      split at h
      · rename_i hk
        simp only [Bool.and_eq_true] at hk
        obtain ⟨r, hr, hq⟩ := str_sound hτ (Q := Q) hk.1 hk.2 h (fun Sh W ρ a ha => by
          rcases ha.seq_inv with ⟨rfl, _⟩ | ⟨_, rfl, _⟩ | h
          · exact ⟨_, _, _, rfl⟩
          · exact ⟨_, _, _, rfl⟩
          · cases h; exact ⟨_, _, _, rfl⟩)
        refine ⟨r, hr, fun Sh W ρ nt a hG hL ht => ?_⟩
        obtain ⟨v, r1, r2⟩ := hq Sh W ρ _ hL (ev_sound hG ht hv)
        exact ⟨v, by rw [execOp, ho]; exact run_v r1, r2⟩
      · exact h.elim
    · rename_i id off len cap sz hv
      split at h
      · rename_i hk
        simp only [Bool.and_eq_true] at hk
        obtain ⟨r, hr, hq⟩ := str_sound hτ (Q := Q) hk.1 hk.2 h (fun Sh W ρ a ha => by cases ha; exact ⟨_, _, _, rfl⟩)
        refine ⟨r, hr, fun Sh W ρ nt a hG hL ht => ?_⟩
        obtain ⟨v, r1, r2⟩ := hq Sh W ρ _ hL (ev_sound hG ht hv)
        exact ⟨v, by rw [execOp, ho]; exact run_v r1, r2⟩
      · exact h.elim
    · rename_i id len sz hv
      split at h
      · rename_i hk
        simp only [Bool.and_eq_true] at hk
        obtain ⟨r, hr, hq⟩ := str_sound hτ (Q := Q) hk.1 hk.2 h (fun Sh W ρ a ha => by
          rcases ha.acc_inv with ⟨rfl, _⟩ | ha
          · exact ⟨_, _, _, rfl⟩
          · cases ha; exact ⟨_, _, _, rfl⟩)
        refine ⟨r, hr, fun Sh W ρ nt a hG hL ht => ?_⟩
        obtain ⟨v, r1, r2⟩ := hq Sh W ρ _ hL (ev_sound hG ht hv)
        exact ⟨v, by rw [execOp, ho]; exact run_v r1, r2⟩
      · exact h.elim
    · rename_i hv
      split at h
      · rename_i hk
        simp only [Bool.and_eq_true] at hk
        obtain ⟨e, hus, hue⟩ := isBytes_inv hτ hk.1
        have hud := isK_str hτ hk.2
        refine ⟨_, h, fun Sh W ρ nt a hG hL ht => ?_⟩
        have := ev_sound hG ht hv
        refine ⟨.string .empty, ?_, .str rfl⟩
        rw [execOp, ho]
        refine run_v ?_
        cases hcv : a.eval x <;> rw [hcv] at this <;> cases this
        rw [run_convert_bytes_string W src dst e _ _ _ hus hue hud]; rfl
      · exact h.elim
    · rename_i hv
      split at h
      · rename_i hk
        simp only [Bool.and_eq_true] at hk
        obtain ⟨e, hus, hue⟩ := isBytes_inv hτ hk.1
        have hud := isK_str hτ hk.2
        refine ⟨_, h, fun Sh W ρ nt a hG hL ht => ?_⟩
        have := ev_sound hG ht hv
        refine ⟨.string .empty, ?_, .str rfl⟩
        rw [execOp, ho]
        refine run_v ?_
        cases hcv : a.eval x <;> rw [hcv] at this <;> cases this
        rw [run_convert_bytes_string W src dst e _ _ _ hus hue hud]
        exact run_bytesToString W _ 0 0 [] (by simp [loadCells, loadCellsFrom])
      · exact h.elim
    · rename_i va _ _ _ _ _ hva
      split at h
      · rename_i hk
        obtain ⟨r, hr, hq⟩ := conv_sound hτ hk h
        refine ⟨r, hr, fun Sh W ρ nt a hG hL ht => ?_⟩
        obtain ⟨v, r1, r2⟩ := hq Sh W ρ _ (ev_sound hG ht hva)
        exact ⟨v, by rw [execOp, ho]; exact run_v r1, r2⟩
      · exact h.elim
    · exact h.elim
  · -- makeFunc
    rename_i f first captured ho
    split at h
    · rename_i va vb hva hvb
      refine ⟨_, h, fun Sh W ρ nt a hG hL ht => ?_⟩
      have h1 := evs_sound hG ht hva
      have h2 := evs_sound hG ht hvb
      refine ⟨.func (.func f) (first.map a.eval) (captured.map a.eval), by rw [execOp, ho]; rfl, ?_⟩
      have e1 : VRL Sh W ρ va (first.map a.eval).toList := by simpa using h1
      have e2 : VRL Sh W ρ vb (captured.map a.eval).toList := by simpa using h2
      exact .func e1.of_array.1 e1.of_array.2 e2.of_array.1 e2.of_array.2
    · exact h.elim
  · -- slice
    rename_i t x lo hi ho
    split at h
    · rename_i v l u hv hi'
      split at h
      · rename_i hs
        obtain ⟨i1, i2⟩ := ints_two hi'
        obtain ⟨r, hr, hq⟩ := sliceH_sound hτ h
        refine ⟨r, hr, fun Sh W ρ nt a hG hL ht => ?_⟩
        obtain ⟨v', r1, r2⟩ := hq Sh W ρ _ (lo.map a.eval) (hi.map a.eval) hL (optBV hG ht i1 hs.1) (optBV hG ht i2 hs.2) (ev_sound hG ht hv)
        exact ⟨v', by rw [execOp, ho]; exact run_v r1, r2⟩
      · exact h.elim
    · exact h.elim
  · -- slice with a capacity
    rename_i t x lo hi mx ho
    split at h
    · rename_i v l kh hh km m hv hl hhi hmx
      split at h
      · rename_i hs
        obtain ⟨r, hr, hq⟩ := slice0_sound hτ h
        refine ⟨r, hr, fun Sh W ρ nt a hG hL ht => ?_⟩
        have b2 : BV (some hh) (some (a.eval hi)) := by
          rw [(ev_sound hG ht hhi).int_inv]
          exact ⟨kh, rfl⟩
        have b3 : BV (some m) (some (a.eval mx)) := by
          rw [(ev_sound hG ht hmx).int_inv]
          exact ⟨km, rfl⟩
        obtain ⟨v', r1, r2⟩ := hq Sh W ρ _ (lo.map a.eval) _ _ (optBV hG ht hl hs) b2 b3 (ev_sound hG ht hv)
        exact ⟨v', by rw [execOp, ho]; exact run_v r1, r2⟩
      · exact h.elim
    · exact h.elim
  · -- fieldAddr
    rename_i t x f ho
    split at h
    · rename_i id off fo ft hv hf
      split at h
      · rename_i hfull
        obtain ⟨fs, fd, hu, hfd, rfl, rfl⟩ := fieldAt_inv hτ hf
        obtain ⟨r, hr, h⟩ := addN_inv h
        refine ⟨_, h, fun Sh W ρ nt a hG hL ht => ?_⟩
        obtain ⟨b, hr', hcv⟩ := (ev_sound hG ht hv).ptr_inv
        unfold isFull at hfull
        split at hfull
        · rename_i ti hti
          refine ⟨.pointer (some ⟨b, off.v + fd.offset, none⟩), ?_, .ptr hr' (by rw [hr]; rfl)⟩
          rw [execOp, ho]
          refine run_v ?_
          have hne : ¬ ti.size = 0 := by simpa using hfull
          rw [hcv]
          simp [Instr.fieldAt, run_underlying hu, hfd, Instr.sureAddr, fieldPlace, run_size (hτ _ _ hti), hne, Addr.add_lit']
        · cases hfull
      · exact h.elim
    · rename_i lit c off fo ft hv hf
      split at h
      · rename_i hfull
        obtain ⟨fs, fd, hu, hfd, rfl, rfl⟩ := fieldAt_inv hτ hf
        obtain ⟨r, hr, h⟩ := addN_inv h
        refine ⟨_, h, fun Sh W ρ nt a hG hL ht => ?_⟩
        obtain ⟨ad, vs, hcv, hsp, hS, ho', hl, hc, hv', hone⟩ := (ev_sound hG ht hv).ref_inv
        unfold isFull at hfull
        split at hfull
        · rename_i ti hti
          have hr' : r.v = off.v + fd.offset := by rw [hr]; rfl
          refine ⟨.pointer (some (ad.add fd.offset)), ?_, ?_⟩
          · rw [execOp, ho]
            refine run_v ?_
            have hne : ¬ ti.size = 0 := by simpa using hfull
            rw [hcv]
            simp [Instr.fieldAt, run_underlying hu, hfd, Instr.sureAddr, fieldPlace, run_size (hτ _ _ hti), hne]
          · rw [addr_add ad hsp]
            exact .ref (vs := vs) rfl hS (by show r.v ≤ ad.off + _; omega) hl (fun j v q => by
              show W.cell? ⟨ad.block, ad.off + fd.offset - r.v + j, none⟩ = _
              rw [show ad.off + fd.offset - r.v = ad.off - off.v by omega]; exact hc j v q) hv' hone
        · cases hfull
      · exact h.elim
    · exact h.elim
  · -- field
    rename_i t x f ho
    split at h
    · rename_i b cs fo ft hv hf
      obtain ⟨fs, fd, hu, hfd, rfl, rfl⟩ := fieldAt_inv hτ hf
      obtain ⟨y, hy, hp⟩ := part_sound hτ h
      refine ⟨y, hy, fun Sh W ρ nt a hG hL ht => ?_⟩
      obtain ⟨vs, hcv, hl, hv', hone⟩ := (ev_sound hG ht hv).agg_inv
      obtain ⟨v, r1, r2⟩ := hp Sh W ρ vs hv' (by show cs.length ≤ _; omega) hone
      refine ⟨v, ?_, r2⟩
      rw [execOp, ho]
      refine run_v ?_
      rw [hcv]
      simp only [Instr.field, Sem.run_bind, run_underlying hu, Result.andThen_ok, hfd, asAgg, Sem.run_pure]
      exact r1
    · exact h.elim
  · -- indexAddr
    rename_i t x i ho
    split at h
    · rename_i v k j hv hj
      obtain ⟨r, hr, hq⟩ := indexAddr_sound hτ h
      refine ⟨r, hr, fun Sh W ρ nt a hG hL ht => ?_⟩
      obtain ⟨v', r1, r2⟩ := hq Sh W ρ _ k (ev_sound hG ht hv)
      refine ⟨v', ?_, r2⟩
      rw [execOp, ho]
      refine run_v ?_
      rw [(ev_sound hG ht hj).int_inv]; exact r1
    · exact h.elim
  · -- index
    rename_i t x i ho
    split at h
    · rename_i v k j hv hj
      obtain ⟨r, hr, hq⟩ := index_sound hτ h
      refine ⟨r, hr, fun Sh W ρ nt a hG hL ht => ?_⟩
      obtain ⟨v', r1, r2⟩ := hq Sh W ρ _ k (ev_sound hG ht hv)
      refine ⟨v', ?_, r2⟩
      rw [execOp, ho]
      refine run_v ?_
      rw [(ev_sound hG ht hj).int_inv]; exact r1
    · exact h.elim
  · -- extract
    rename_i x i ho
    split at h
    · rename_i vs hv
      split at h
      · rename_i y hy
        refine ⟨y, h, fun Sh W ρ nt a hG hL ht => ?_⟩
        have := ev_sound hG ht hv
        cases hcv : a.eval x <;> rw [hcv] at this <;> cases this
        rename_i ws hl hw
        have hlt := (List.getElem?_eq_some_iff.1 hy).1
        have hq : ws[i]? = some (ws[i]'(by omega)) := Array.getElem?_eq_getElem _
        refine ⟨_, ?_, hw i y _ hy hq⟩
        rw [execOp, ho]
        refine run_v ?_
        rw [hcv]
        simp [Instr.extract, hq]
      · exact h.elim
    · exact h.elim
  · -- build
    rename_i t ps ho
    split at h
    · rename_i l hl
      obtain ⟨r, hr, hq⟩ := build_sound hτ h
      refine ⟨r, hr, fun Sh W ρ nt a hG hL ht => ?_⟩
      obtain ⟨v, r1, r2⟩ := hq Sh W ρ (ps.map fun (i, x) => (i, a.eval x)) (by
        unfold St.parts at hl
        split at hl
        · rename_i vs hvs
          cases hl
          have := evs_sound hG ht hvs
          have hlen : vs.length = ps.toList.length := by have := this.1; simp at this ⊢; omega
          refine ⟨?_, ?_⟩
          · simp only [Array.toList_map, List.map_map]
            rw [List.map_fst_zip (by simp [hlen])]
            rfl
          · rw [List.map_snd_zip (by simp [hlen])]
            simpa [Function.comp_def] using this
        · cases hl)
      exact ⟨v, by rw [execOp, ho]; exact run_v r1, r2⟩
    · exact h.elim
  · -- makeInterface
    rename_i t x ho
    split at h
    · rename_i v hv
      split at h
      · rename_i hk
        simp only [Bool.and_eq_true, Bool.not_eq_true'] at hk
        obtain ⟨ti, d, h1, h2, h3, h4, h5⟩ := isK_und hτ hk.1
        refine ⟨_, h, fun Sh W ρ nt a hG hL ht => ⟨.iface t (a.eval x), ?_, .iface (ev_sound hG ht hv)⟩⟩
        rw [execOp, ho]
        refine run_v ?_
        simp only [Instr.makeInterface, Sem.run_bind, run_underlying h3, Result.andThen_ok]
        split
        · rename_i ms
          have := h5 ms rfl
          have h6 := hk.2
          simp [isK, h1, this, TK.isIface] at h6
        · rfl
      · exact h.elim
    · exact h.elim
  · -- len
    rename_i args ts ho
    split at h
    · rename_i x t _ hx hts
      obtain ⟨r, hr, hq⟩ := len_sound hτ h
      refine ⟨r, hr, fun Sh W ρ nt a hG hL ht => ?_⟩
      have := evs_sound hG ht hx
      obtain ⟨v, ws, e, h1, h2⟩ := this.uncons
      have e2 := h2.unnil
      subst e2
      have hargs : args.map a.eval = #[v] := by apply Array.ext'; simpa using e
      obtain ⟨v', r1, r2⟩ := hq Sh W ρ v ts o.type (by
        have : ts.toList[0]? = some t := by rw [hts]; rfl
        simpa using this) h1
      refine ⟨v', ?_, r2⟩
      rw [execOp, ho]
      simp only [resolve, Sem.run_bind, Sem.run_pure, Result.andThen_ok, invoke, builtin, hargs, r1]
    · exact h.elim
  · -- max
    rename_i args ts ho
    split at h
    · rename_i x l hx
      obtain ⟨r, hr, hq⟩ := minmax_sound h
      refine ⟨r, hr, fun Sh W ρ nt a hG hL ht => ?_⟩
      have := evs_sound hG ht hx
      obtain ⟨v, ws, e, h1, h2⟩ := this.uncons
      obtain ⟨v', r1, r2⟩ := hq Sh W ρ v ws h1 h2
      refine ⟨v', ?_, r2⟩
      rw [execOp, ho]
      have hargs : (args.map a.eval).toList = v :: ws := by simpa using e
      simp only [resolve, Sem.run_bind, Sem.run_pure, Result.andThen_ok, invoke, builtin, Builtin.max_, hargs]
      simp only [if_true] at r1
      rw [r1]; rfl
    · exact h.elim
  · -- min
    rename_i args ts ho
    split at h
    · rename_i x l hx
      obtain ⟨r, hr, hq⟩ := minmax_sound h
      refine ⟨r, hr, fun Sh W ρ nt a hG hL ht => ?_⟩
      have := evs_sound hG ht hx
      obtain ⟨v, ws, e, h1, h2⟩ := this.uncons
      obtain ⟨v', r1, r2⟩ := hq Sh W ρ v ws h1 h2
      refine ⟨v', ?_, r2⟩
      rw [execOp, ho]
      have hargs : (args.map a.eval).toList = v :: ws := by simpa using e
      simp only [resolve, Sem.run_bind, Sem.run_pure, Result.andThen_ok, invoke, builtin, Builtin.min_, hargs]
      simp only [Bool.false_eq_true, if_false] at r1
      rw [r1]; rfl
    · exact h.elim
  · exact h.elim
end
end Go.Ax
