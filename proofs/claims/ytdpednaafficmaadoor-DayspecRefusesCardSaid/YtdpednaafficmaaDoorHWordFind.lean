/-
  word.find: what a string means among the words of a list.
-/
import Derived.Test.YtdpednaafficmaaDoorAxT
import Derived.Test.YtdpednaafficmaaDoorShelf
import Derived.Test.YtdpednaafficmaaDoorAx36
import Derived.Test.YtdpednaafficmaaDoorMSmlwsm
import Derived.RangeFuncNested
import Derived.RangeFuncFrom
import Derived.RangeFuncBound
import Derived.RangeFuncCalls
import Derived.RangeFuncLeaves
import Derived.Shelf.Abstract
import Derived.Shelf.RegionOpen
import Derived.WalkKit
import Derived.WalkSpells
import Derived.WalkLawsBesides
import Derived.IntWalk
import Derived.Lib.Hide
import Derived.OwnWalkIn
import Derived.TacticsInMore
import Derived.LoopNIn
import Derived.LoopIn
namespace Go.Proofs.YtdpednaafficmaaDoor
open Go.RowKit Go.Shelf
set_option linter.unusedVariables false
set_option linter.unusedSimpArgs false

/-! Contracts of functions of plain data, as calls. -/
theorem callsX_calls {P : Program} {f : Nat} {vs : Array Value} {W : World} {R : Ending → World → Prop} (h : Ax.CallsX P f vs W R) (he : ∀ args w, (callFunc f args).run P w = .ok (.enter f args) w) : Calls P f vs W R := by
  rcases h with ⟨v, W', h1, h2⟩ | ⟨_, h2⟩
  · rw [he] at h1; cases h1
  · exact h2
theorem fnok_str {P : Program} {G : Nat → Option (List Ax.AV)} {f : Nat} {F : List Ax.Dat → Option (List Ax.Dat)} (hf : Ax.FnOk P G f ⟨[.str], .str, F⟩) {s t : List UInt8} (hF : F [.s s] = some [.s t])
    (he : ∀ args w, (callFunc f args).run P w = .ok (.enter f args) w) (hG : ∀ S W, Ax.GR G S W) (W : World) : Calls P f #[.string ⟨s.toArray⟩] W fun e W' => e = .returned (.string ⟨t.toArray⟩) ∧ Below W.heap.size W W' := by
  obtain ⟨x, h1, h2⟩ := hf.out [.str (.sym s)] [.s s] [.s t] rfl hF
  have hx := h2 (List UInt8) (fun v => match v with | .str u => .ret u.v | _ => .none) t rfl
  have hx : ∃ u : Ax.S, x = .str u ∧ u.v = t := by
    cases x <;> first | exact ⟨_, rfl, Option.some.inj hx⟩ | cases hx
  obtain ⟨u, rfl, rfl⟩ := hx
  have hv : Ax.VRL (fun _ => False) W (fun _ => none) [.str (.sym s)] [Value.string ⟨s.toArray⟩] := by
    refine ⟨rfl, fun i x v p q => ?_⟩
    match i with
    | 0 => simp at p q; subst p; subst q; exact .str rfl
    | i + 1 => simp at p
  refine (callsX_calls (h1.out (fun _ => False) W _ (hG _ _) (fun _ h => h.elim) hv) he).mono ?_
  rintro e W' ⟨v, S', rfl, hb, _, _, _, hx⟩
  obtain ⟨b, rfl, hb2⟩ := hx.str_inv'
  refine ⟨?_, hb⟩
  obtain ⟨⟨l⟩⟩ := b
  have hb2 : l = u.v := hb2
  rw [hb2]
theorem fnok_two {P : Program} {G : Nat → Option (List Ax.AV)} {f : Nat} {F : List Ax.Dat → Option (List Ax.Dat)} (hf : Ax.FnOk P G f ⟨[.str, .str], .bool, F⟩) {s t : List UInt8} {r : Bool} (hF : F [.s s, .s t] = some [.b r])
    (he : ∀ args w, (callFunc f args).run P w = .ok (.enter f args) w) (hG : ∀ S W, Ax.GR G S W) (W : World) : Calls P f #[.string ⟨s.toArray⟩, .string ⟨t.toArray⟩] W fun e W' => e = .returned (.bool r) ∧ Below W.heap.size W W' := by
  obtain ⟨x, h1, h2⟩ := hf.out [.str (.sym s), .str (.sym t)] [.s s, .s t] [.b r] rfl hF
  have hx := h2 Bool (fun v => match v with | .bool u => .ret u | _ => .none) r rfl
  have hx : x = .bool r := by
    cases x <;> first | exact congrArg _ (Option.some.inj hx) | cases hx
  subst hx
  have hv : Ax.VRL (fun _ => False) W (fun _ => none) [.str (.sym s), .str (.sym t)] [Value.string ⟨s.toArray⟩, Value.string ⟨t.toArray⟩] := by
    refine ⟨rfl, fun i x v p q => ?_⟩
    match i with
    | 0 => simp at p q; subst p; subst q; exact .str rfl
    | 1 => simp at p q; subst p; subst q; exact .str rfl
    | i + 2 => simp at p
  refine (callsX_calls (h1.out (fun _ => False) W _ (hG _ _) (fun _ h => h.elim) hv) he).mono ?_
  rintro e W' ⟨v, S', rfl, hb, _, _, _, hx⟩
  cases hx
  exact ⟨rfl, hb⟩
theorem small_calls (s : List UInt8) (hs : s.length < 4611686018427387904) (W : World) : Calls Tryd.prog 128 #[.string ⟨s.toArray⟩] W fun e W' => e = .returned (.string ⟨(Sm.smallV s).toArray⟩) ∧ Below W.heap.size W W' :=
  fnok_str (Sm.F_word_small_ok (P := Tryd.prog) (mx := 0)) (Sm.small_at hs) (enters_of Tryd.func128 (by kernel_rfl) rfl) (fun S W g c h => by cases h) W
attribute [local go_sem] Oper.semAt_some
/-- The words that begin so, with their numbers. -/
def hits (t : List UInt8) : Nat → List (List UInt8) → List (Nat × List UInt8)
  | _, [] => []
  | k, w :: ws => if w ≠ [] ∧ Lib.hasPrefix w t = true then (k, w) :: hits t (k + 1) ws else hits t (k + 1) ws
theorem hits_in {t w : List UInt8} {ws : List (List UInt8)} {k : Nat} (h1 : w ≠ []) (h2 : Lib.hasPrefix w t = true) : hits t k (w :: ws) = (k, w) :: hits t (k + 1) ws := by
  conv => lhs; unfold hits
  exact if_pos ⟨h1, h2⟩
theorem hits_out {t w : List UInt8} {ws : List (List UInt8)} {k : Nat} (h : ¬ (w ≠ [] ∧ Lib.hasPrefix w t = true)) : hits t k (w :: ws) = hits t (k + 1) ws := by
  conv => lhs; unfold hits
  exact if_neg h
def sv (s : List UInt8) : Value := .string ⟨s.toArray⟩
def arr12 (f : Nat → List UInt8) : Array Value := #[.string ⟨(f 0).toArray⟩, .string ⟨(f 1).toArray⟩, .string ⟨(f 2).toArray⟩, .string ⟨(f 3).toArray⟩, .string ⟨(f 4).toArray⟩, .string ⟨(f 5).toArray⟩, .string ⟨(f 6).toArray⟩, .string ⟨(f 7).toArray⟩, .string ⟨(f 8).toArray⟩, .string ⟨(f 9).toArray⟩, .string ⟨(f 10).toArray⟩, .string ⟨(f 11).toArray⟩]
theorem run_ix0 (f : Nat → List UInt8) (w : World) : (Instr.index 128 (Value.agg #[Value.string ⟨(f 0).toArray⟩, Value.string ⟨(f 1).toArray⟩, Value.string ⟨(f 2).toArray⟩, Value.string ⟨(f 3).toArray⟩, Value.string ⟨(f 4).toArray⟩, Value.string ⟨(f 5).toArray⟩, Value.string ⟨(f 6).toArray⟩, Value.string ⟨(f 7).toArray⟩, Value.string ⟨(f 8).toArray⟩, Value.string ⟨(f 9).toArray⟩, Value.string ⟨(f 10).toArray⟩, Value.string ⟨(f 11).toArray⟩]) (Value.int IntKind.i64 0)).run Tryd.prog w = .ok (.string ⟨(f 0).toArray⟩) w := by kernel_rfl
theorem run_ix1 (f : Nat → List UInt8) (w : World) : (Instr.index 128 (Value.agg #[Value.string ⟨(f 0).toArray⟩, Value.string ⟨(f 1).toArray⟩, Value.string ⟨(f 2).toArray⟩, Value.string ⟨(f 3).toArray⟩, Value.string ⟨(f 4).toArray⟩, Value.string ⟨(f 5).toArray⟩, Value.string ⟨(f 6).toArray⟩, Value.string ⟨(f 7).toArray⟩, Value.string ⟨(f 8).toArray⟩, Value.string ⟨(f 9).toArray⟩, Value.string ⟨(f 10).toArray⟩, Value.string ⟨(f 11).toArray⟩]) (Value.int IntKind.i64 1)).run Tryd.prog w = .ok (.string ⟨(f 1).toArray⟩) w := by kernel_rfl
theorem run_ix2 (f : Nat → List UInt8) (w : World) : (Instr.index 128 (Value.agg #[Value.string ⟨(f 0).toArray⟩, Value.string ⟨(f 1).toArray⟩, Value.string ⟨(f 2).toArray⟩, Value.string ⟨(f 3).toArray⟩, Value.string ⟨(f 4).toArray⟩, Value.string ⟨(f 5).toArray⟩, Value.string ⟨(f 6).toArray⟩, Value.string ⟨(f 7).toArray⟩, Value.string ⟨(f 8).toArray⟩, Value.string ⟨(f 9).toArray⟩, Value.string ⟨(f 10).toArray⟩, Value.string ⟨(f 11).toArray⟩]) (Value.int IntKind.i64 2)).run Tryd.prog w = .ok (.string ⟨(f 2).toArray⟩) w := by kernel_rfl
theorem run_ix3 (f : Nat → List UInt8) (w : World) : (Instr.index 128 (Value.agg #[Value.string ⟨(f 0).toArray⟩, Value.string ⟨(f 1).toArray⟩, Value.string ⟨(f 2).toArray⟩, Value.string ⟨(f 3).toArray⟩, Value.string ⟨(f 4).toArray⟩, Value.string ⟨(f 5).toArray⟩, Value.string ⟨(f 6).toArray⟩, Value.string ⟨(f 7).toArray⟩, Value.string ⟨(f 8).toArray⟩, Value.string ⟨(f 9).toArray⟩, Value.string ⟨(f 10).toArray⟩, Value.string ⟨(f 11).toArray⟩]) (Value.int IntKind.i64 3)).run Tryd.prog w = .ok (.string ⟨(f 3).toArray⟩) w := by kernel_rfl
theorem run_ix4 (f : Nat → List UInt8) (w : World) : (Instr.index 128 (Value.agg #[Value.string ⟨(f 0).toArray⟩, Value.string ⟨(f 1).toArray⟩, Value.string ⟨(f 2).toArray⟩, Value.string ⟨(f 3).toArray⟩, Value.string ⟨(f 4).toArray⟩, Value.string ⟨(f 5).toArray⟩, Value.string ⟨(f 6).toArray⟩, Value.string ⟨(f 7).toArray⟩, Value.string ⟨(f 8).toArray⟩, Value.string ⟨(f 9).toArray⟩, Value.string ⟨(f 10).toArray⟩, Value.string ⟨(f 11).toArray⟩]) (Value.int IntKind.i64 4)).run Tryd.prog w = .ok (.string ⟨(f 4).toArray⟩) w := by kernel_rfl
theorem run_ix5 (f : Nat → List UInt8) (w : World) : (Instr.index 128 (Value.agg #[Value.string ⟨(f 0).toArray⟩, Value.string ⟨(f 1).toArray⟩, Value.string ⟨(f 2).toArray⟩, Value.string ⟨(f 3).toArray⟩, Value.string ⟨(f 4).toArray⟩, Value.string ⟨(f 5).toArray⟩, Value.string ⟨(f 6).toArray⟩, Value.string ⟨(f 7).toArray⟩, Value.string ⟨(f 8).toArray⟩, Value.string ⟨(f 9).toArray⟩, Value.string ⟨(f 10).toArray⟩, Value.string ⟨(f 11).toArray⟩]) (Value.int IntKind.i64 5)).run Tryd.prog w = .ok (.string ⟨(f 5).toArray⟩) w := by kernel_rfl
theorem run_ix6 (f : Nat → List UInt8) (w : World) : (Instr.index 128 (Value.agg #[Value.string ⟨(f 0).toArray⟩, Value.string ⟨(f 1).toArray⟩, Value.string ⟨(f 2).toArray⟩, Value.string ⟨(f 3).toArray⟩, Value.string ⟨(f 4).toArray⟩, Value.string ⟨(f 5).toArray⟩, Value.string ⟨(f 6).toArray⟩, Value.string ⟨(f 7).toArray⟩, Value.string ⟨(f 8).toArray⟩, Value.string ⟨(f 9).toArray⟩, Value.string ⟨(f 10).toArray⟩, Value.string ⟨(f 11).toArray⟩]) (Value.int IntKind.i64 6)).run Tryd.prog w = .ok (.string ⟨(f 6).toArray⟩) w := by kernel_rfl
theorem run_ix7 (f : Nat → List UInt8) (w : World) : (Instr.index 128 (Value.agg #[Value.string ⟨(f 0).toArray⟩, Value.string ⟨(f 1).toArray⟩, Value.string ⟨(f 2).toArray⟩, Value.string ⟨(f 3).toArray⟩, Value.string ⟨(f 4).toArray⟩, Value.string ⟨(f 5).toArray⟩, Value.string ⟨(f 6).toArray⟩, Value.string ⟨(f 7).toArray⟩, Value.string ⟨(f 8).toArray⟩, Value.string ⟨(f 9).toArray⟩, Value.string ⟨(f 10).toArray⟩, Value.string ⟨(f 11).toArray⟩]) (Value.int IntKind.i64 7)).run Tryd.prog w = .ok (.string ⟨(f 7).toArray⟩) w := by kernel_rfl
theorem run_ix8 (f : Nat → List UInt8) (w : World) : (Instr.index 128 (Value.agg #[Value.string ⟨(f 0).toArray⟩, Value.string ⟨(f 1).toArray⟩, Value.string ⟨(f 2).toArray⟩, Value.string ⟨(f 3).toArray⟩, Value.string ⟨(f 4).toArray⟩, Value.string ⟨(f 5).toArray⟩, Value.string ⟨(f 6).toArray⟩, Value.string ⟨(f 7).toArray⟩, Value.string ⟨(f 8).toArray⟩, Value.string ⟨(f 9).toArray⟩, Value.string ⟨(f 10).toArray⟩, Value.string ⟨(f 11).toArray⟩]) (Value.int IntKind.i64 8)).run Tryd.prog w = .ok (.string ⟨(f 8).toArray⟩) w := by kernel_rfl
theorem run_ix9 (f : Nat → List UInt8) (w : World) : (Instr.index 128 (Value.agg #[Value.string ⟨(f 0).toArray⟩, Value.string ⟨(f 1).toArray⟩, Value.string ⟨(f 2).toArray⟩, Value.string ⟨(f 3).toArray⟩, Value.string ⟨(f 4).toArray⟩, Value.string ⟨(f 5).toArray⟩, Value.string ⟨(f 6).toArray⟩, Value.string ⟨(f 7).toArray⟩, Value.string ⟨(f 8).toArray⟩, Value.string ⟨(f 9).toArray⟩, Value.string ⟨(f 10).toArray⟩, Value.string ⟨(f 11).toArray⟩]) (Value.int IntKind.i64 9)).run Tryd.prog w = .ok (.string ⟨(f 9).toArray⟩) w := by kernel_rfl
theorem run_ix10 (f : Nat → List UInt8) (w : World) : (Instr.index 128 (Value.agg #[Value.string ⟨(f 0).toArray⟩, Value.string ⟨(f 1).toArray⟩, Value.string ⟨(f 2).toArray⟩, Value.string ⟨(f 3).toArray⟩, Value.string ⟨(f 4).toArray⟩, Value.string ⟨(f 5).toArray⟩, Value.string ⟨(f 6).toArray⟩, Value.string ⟨(f 7).toArray⟩, Value.string ⟨(f 8).toArray⟩, Value.string ⟨(f 9).toArray⟩, Value.string ⟨(f 10).toArray⟩, Value.string ⟨(f 11).toArray⟩]) (Value.int IntKind.i64 10)).run Tryd.prog w = .ok (.string ⟨(f 10).toArray⟩) w := by kernel_rfl
theorem run_ix11 (f : Nat → List UInt8) (w : World) : (Instr.index 128 (Value.agg #[Value.string ⟨(f 0).toArray⟩, Value.string ⟨(f 1).toArray⟩, Value.string ⟨(f 2).toArray⟩, Value.string ⟨(f 3).toArray⟩, Value.string ⟨(f 4).toArray⟩, Value.string ⟨(f 5).toArray⟩, Value.string ⟨(f 6).toArray⟩, Value.string ⟨(f 7).toArray⟩, Value.string ⟨(f 8).toArray⟩, Value.string ⟨(f 9).toArray⟩, Value.string ⟨(f 10).toArray⟩, Value.string ⟨(f 11).toArray⟩]) (Value.int IntKind.i64 11)).run Tryd.prog w = .ok (.string ⟨(f 11).toArray⟩) w := by kernel_rfl
theorem run_idx12 (f : Nat → List UInt8) (w : World) {k : Nat} (hk : k < 12) : (Instr.index 128 (Value.agg #[Value.string ⟨(f 0).toArray⟩, Value.string ⟨(f 1).toArray⟩, Value.string ⟨(f 2).toArray⟩, Value.string ⟨(f 3).toArray⟩, Value.string ⟨(f 4).toArray⟩, Value.string ⟨(f 5).toArray⟩, Value.string ⟨(f 6).toArray⟩, Value.string ⟨(f 7).toArray⟩, Value.string ⟨(f 8).toArray⟩, Value.string ⟨(f 9).toArray⟩, Value.string ⟨(f 10).toArray⟩, Value.string ⟨(f 11).toArray⟩]) (Value.int IntKind.i64 (k : Int))).run Tryd.prog w = .ok (.string ⟨(f k).toArray⟩) w := by
  have h : k = 0 ∨ k = 1 ∨ k = 2 ∨ k = 3 ∨ k = 4 ∨ k = 5 ∨ k = 6 ∨ k = 7 ∨ k = 8 ∨ k = 9 ∨ k = 10 ∨ k = 11 := by omega
  rcases h with rfl | rfl | rfl | rfl | rfl | rfl | rfl | rfl | rfl | rfl | rfl | rfl
  · exact run_ix0 f w
  · exact run_ix1 f w
  · exact run_ix2 f w
  · exact run_ix3 f w
  · exact run_ix4 f w
  · exact run_ix5 f w
  · exact run_ix6 f w
  · exact run_ix7 f w
  · exact run_ix8 f w
  · exact run_ix9 f w
  · exact run_ix10 f w
  · exact run_ix11 f w
theorem pfx {x t : List UInt8} {b : Bool} (hp : Lib.hasPrefix x t = b) (w : World) : Calls Tryd.prog 22 #[.string ⟨x.toArray⟩, .string ⟨t.toArray⟩] w fun e w' => e = .returned (.bool b) ∧ w' = w := by
  have h := Tryd.strings_HasPrefix ⟨x.toArray⟩ ⟨t.toArray⟩ w
  have e : Lib.hasPrefix (ByteArray.mk x.toArray).data.toList (ByteArray.mk t.toArray).data.toList = b := hp
  rw [e] at h
  exact h

set_option maxRecDepth 100000 in
set_option maxHeartbeats 2000000 in
theorem wf_first_in (n : Nat) (hn : 1 ≤ n) (l Bl Bs : Nat) (ws : List (List UInt8)) (t : List UInt8) (hw : ws.length = 12) (J Jx : List (Nat × List UInt8) → World → Prop)
    (hY : ∀ pre x W, J pre W → pre.length < 12 → YieldAt Fence.wide (n - 1) Tryd.prog l #[.int .i64 (x.1 : Int), sv x.2] W fun e W' =>
      (e = .returned (.bool true) ∧ J (pre ++ [x]) W' ∧ W'.cell? ⟨Bs, 0, none⟩ = W.cell? ⟨Bs, 0, none⟩) ∨ (e = .returned (.bool false) ∧ Jx (pre ++ [x]) W'))
    (W : World) (f : Nat → List UInt8) (hf : ∀ j, j < 12 → f j = ws[j]?.getD []) (hc : ∀ j, j < 12 → W.cell? ⟨Bl, j, none⟩ = some (.string ⟨(f j).toArray⟩)) (hs : W.cell? ⟨Bs, 0, none⟩ = some (.string ⟨t.toArray⟩)) (h0 : J [] W) :
    CallsIn Fence.wide n Tryd.prog 148 #[.func (.yield l) #[] #[], .pointer (some ⟨Bl, 0, none⟩), .pointer (some ⟨Bs, 0, none⟩)] W fun e W' => (∃ v, e = .returned v) ∧
      ((∃ ys, ys = hits t 0 ws ∧ J ys W') ∨ (∃ pre, pre <+: hits t 0 ws ∧ Jx pre W')) := by
  refine callsIn_of_wp Tryd.func148 rfl trivial ?_ rfl
  simp only [Tryd.ntmps148, List.size_toArray, List.length_cons, List.length_nil, Nat.reduceAdd, Nat.reduceSub, Array.replicate_succ, Array.replicate_zero, List.push_toArray, List.append_toArray, List.nil_append, List.cons_append]
  have c0 := hc 0 (by omega)
  have c1 := hc 1 (by omega)
  have c2 := hc 2 (by omega)
  have c3 := hc 3 (by omega)
  have c4 := hc 4 (by omega)
  have c5 := hc 5 (by omega)
  have c6 := hc 6 (by omega)
  have c7 := hc 7 (by omega)
  have c8 := hc 8 (by omega)
  have c9 := hc 9 (by omega)
  have c10 := hc 10 (by omega)
  have c11 := hc 11 (by omega)
  have hdr : ∀ k, k < 12 → ws.drop k = f k :: ws.drop (k + 1) := fun k hlt => by rw [hf k hlt, List.getElem?_eq_getElem (by omega)]; exact List.drop_eq_getElem_cons (by omega)
  have H := Lib.hid hdr
  have H2 := Lib.hid hw
  clear hf hdr hw
  clear hc
  gi_wp2
  gi_loopw [7] (fun i wr => ∃ (k : Nat) (pre : List (Nat × List UInt8)), k ≤ 12 ∧ i = .int .i64 k ∧ pre.length ≤ k ∧ hits t 0 ws = pre ++ hits t k (ws.drop k) ∧ J pre wr ∧ wr.cell? ⟨Bs, 0, none⟩ = some (.string ⟨t.toArray⟩))
    (fun i _ => 12 - (intOf i).toNat)
  case atStart => exact ⟨0, [], Nat.zero_le _, rfl, Nat.zero_le _, rfl, h0, hs⟩
  case round =>
    obtain ⟨k, pre, hk, rfl, hpl, hh, hJs, hs'⟩ := hrel
    clear hs
    by_cases hlt : k < 12
    · have hi := run_idx12 f wr hlt
      have hd := H.out k hlt
      rw [hd] at hh
      generalize hx : f k = x at *
      by_cases hx0 : x = []
      · rw [hits_out (fun q => q.1 hx0)] at hh
        have q : x.isEmpty = true := by rw [hx0]; rfl
        have H3 := Lib.hid hh
        clear hh hx0
        gi_wp2
        refine ⟨trivial, ?_⟩
        gi_wp2
        refine ⟨fun _ _ => trivial, ?_⟩
        gi_wp2
        have hh := H3.out
        go_roundw
        case rel => exact ⟨k + 1, pre, by omega, by simp, by omega, hh, hJs, hs'⟩
        case measure => simp [intOf]; omega
      · have q : x.isEmpty = false := by cases x with | nil => exact absurd rfl hx0 | cons => rfl
        cases hp : Lib.hasPrefix x t with
        | false =>
          rw [hits_out (fun q => by rw [hp] at q; cases q.2)] at hh
          have H3 := Lib.hid hh
          clear hh
          gi_wp2_with (first | (refine ⟨fun _ h => by cases h, ?_⟩) | (refine ⟨trivial, ?_⟩; gi_at_call 22; refine (callsIn_wide.2 (pfx hp _)).mono ?_; rintro e w' ⟨rfl, rfl⟩))
          refine ⟨fun _ _ => trivial, ?_⟩
          gi_wp2
          have hh := H3.out
          go_roundw
          case rel => first | trivial | exact ⟨k + 1, pre, by omega, by simp, by omega, hh, hJs, hs'⟩
          case measure => first | trivial | (simp [intOf]; omega)
        | true =>
          rw [hits_in hx0 hp] at hh
          have H3 := Lib.hid hh
          clear hh
          obtain ⟨fn, tmps, assign, body, hy, hR⟩ := hY pre (k, x) wr hJs (by omega)
          dsimp only [sv] at hy
          gi_wp2_with (first | (refine ⟨fun _ h => by cases h, ?_⟩) | (refine ⟨trivial, ?_⟩; gi_at_call 22; refine (callsIn_wide.2 (pfx hp _)).mono ?_; rintro e w' ⟨rfl, rfl⟩))
          refine hR.mono ?_
          rintro e W3 (⟨rfl, hJ3, hk3⟩ | ⟨rfl, hJx3⟩)
          · gi_wp2
            have hh := H3.out
            go_roundw
            case rel => first | trivial | exact ⟨k + 1, pre ++ [(k, x)], by omega, by simp, by simp; omega, by rw [hh]; simp, hJ3, hk3.trans hs'⟩
            case measure => first | trivial | (simp [intOf]; omega)
          · gi_wp2
            refine bodyPost_ret (results_none rfl _ _ _) rfl ?_
            have hh := H3.out
            exact ⟨⟨_, rfl⟩, .inr ⟨_, by rw [hh]; exact ⟨hits t (k + 1) (ws.drop (k + 1)), by simp⟩, hJx3⟩⟩
    · obtain rfl : k = 12 := by omega
      gi_wp2
      go_end0
      rw [List.drop_of_length_le (Nat.le_of_eq H2.out)] at hh
      exact ⟨⟨_, rfl⟩, .inl ⟨_, rfl, by rw [hh]; simpa [hits] using hJs⟩⟩

set_option maxHeartbeats 1000000 in
theorem wf_maker (n : Nat) (f : Nat → List UInt8) (t : List UInt8) (w : World) :
    CallsIn Fence.wide n Tryd.prog 129 #[.agg #[Value.string ⟨(f 0).toArray⟩, Value.string ⟨(f 1).toArray⟩, Value.string ⟨(f 2).toArray⟩, Value.string ⟨(f 3).toArray⟩, Value.string ⟨(f 4).toArray⟩, Value.string ⟨(f 5).toArray⟩, Value.string ⟨(f 6).toArray⟩, Value.string ⟨(f 7).toArray⟩, Value.string ⟨(f 8).toArray⟩, Value.string ⟨(f 9).toArray⟩, Value.string ⟨(f 10).toArray⟩, Value.string ⟨(f 11).toArray⟩], .string ⟨t.toArray⟩] w fun e w' => e = .returned (.func (.func 148) #[] #[.pointer (some ⟨w.heap.size, 0, none⟩), .pointer (some ⟨w.heap.size + 1, 0, none⟩)]) ∧
      w' = (w.alloc (.cells #[Value.string ⟨(f 0).toArray⟩, Value.string ⟨(f 1).toArray⟩, Value.string ⟨(f 2).toArray⟩, Value.string ⟨(f 3).toArray⟩, Value.string ⟨(f 4).toArray⟩, Value.string ⟨(f 5).toArray⟩, Value.string ⟨(f 6).toArray⟩, Value.string ⟨(f 7).toArray⟩, Value.string ⟨(f 8).toArray⟩, Value.string ⟨(f 9).toArray⟩, Value.string ⟨(f 10).toArray⟩, Value.string ⟨(f 11).toArray⟩] 128)).alloc (.cells #[.string ⟨t.toArray⟩] 9) := by
  refine callsIn_of_wp Tryd.func129 rfl trivial ?_ rfl
  simp only [Tryd.ntmps129, List.size_toArray, List.length_cons, List.length_nil, Nat.reduceAdd, Nat.reduceSub, Array.replicate_succ, Array.replicate_zero, List.push_toArray, List.append_toArray, List.nil_append, List.cons_append]
  gi_wp2
  go_ret
  exact ⟨rfl, rfl⟩

/-- What the body of a loop must keep: the box of the string. -/
def KeepsB (B : Nat) (U V : World) : Prop := V.cell? ⟨B, 0, none⟩ = U.cell? ⟨B, 0, none⟩
theorem hits_len (t : List UInt8) : ∀ (ws : List (List UInt8)) (k : Nat), (hits t k ws).length ≤ ws.length
  | [], k => Nat.le_refl _
  | w :: ws, k => by
    have := hits_len t ws (k + 1)
    by_cases h : w ≠ [] ∧ Lib.hasPrefix w t = true
    · rw [hits_in h.1 h.2]; simp; exact this
    · rw [hits_out h]; simp; omega
theorem wf_stops (n : Nat) (hn : 1 ≤ n) (Bl Bs : Nat) (ws : List (List UInt8)) (t : List UInt8) (hw : ws.length = 12) (f : Nat → List UInt8) (hf : ∀ j, j < 12 → f j = ws[j]?.getD []) (w : World) (hBl : Bl < w.heap.size) (hBs : Bs < w.heap.size)
    (hc : ∀ j, j < 12 → w.cell? ⟨Bl, j, none⟩ = some (.string ⟨(f j).toArray⟩)) (hs : w.cell? ⟨Bs, 0, none⟩ = some (.string ⟨t.toArray⟩)) :
    SeqStopsK Fence.wide n Tryd.prog 148 #[.pointer (some ⟨Bl, 0, none⟩), .pointer (some ⟨Bs, 0, none⟩)] (fun x : Nat × List UInt8 => #[Value.int .i64 (x.1 : Int), sv x.2]) (KeepsB Bs) (fun ys => ys = hits t 0 ws) (fun pre => pre <+: hits t 0 ws) 12 w := fun l J Jx W hW _ _ hY h0 =>
  wf_first_in n hn l Bl Bs ws t hw J Jx hY W f hf (fun j hj => (hW.cell (p := ⟨Bl, j, none⟩) hBl).trans (hc j hj)) ((hW.cell (p := ⟨Bs, 0, none⟩) hBs).trans hs) h0

def lastF (pre : List (Nat × List UInt8)) (first : Int) : Int := match pre.getLast? with
  | some p => wrap64 (p.1 + first)
  | none => 0
theorem lastF_snoc (pre : List (Nat × List UInt8)) (x : Nat × List UInt8) (first : Int) : lastF (pre ++ [x]) first = wrap64 (x.1 + first) := by simp [lastF]
/-- What a string means among words. -/
def findV (ws : List (List UInt8)) (first : Int) (t : List UInt8) : Int × Int :=
  match (hits t 0 ws).find? (fun p => p.2 == t) with
  | some p => (wrap64 (p.1 + first), 0)
  | none => if t = [] ∨ (hits t 0 ws).length ≠ 1 then (0, 8) else (lastF (hits t 0 ws) first, 0)

theorem wc_other {W : World} {a b : Addr} {v : Value} (h : a ≠ b) : (W.setCell a v).cell? b = W.cell? b := World.cell?_setCell_other W a b v h
theorem wc_cell {W : World} {B : Nat} {v : Value} {t : TypeId} (h : W.heap[B]? = some (.cells #[v] t (0, 0))) : W.cell? ⟨B, 0, none⟩ = some v ∧ W.frozen? ⟨B, 0, none⟩ = false := by
  constructor <;> simp [World.cell?, World.frozen?, h]

theorem wc_row {W : World} {B : Nat} {vs : Array Value} {t : TypeId} {j : Nat} {v : Value} (h : W.heap[B]? = some (.cells vs t (0, 0))) (hv : vs[j]? = some v) : W.cell? ⟨B, j, none⟩ = some v := by simp [World.cell?, h, hv]
theorem wc_rowf {W : World} {B : Nat} {vs : Array Value} {t : TypeId} (h : W.heap[B]? = some (.cells vs t (0, 0))) : W.frozen? ⟨B, 0, none⟩ = false := by simp [World.frozen?, h]
theorem wc_new {W : World} {vs : Array Value} {t : TypeId} {j : Nat} {v : Value} (h : vs[j]? = some v) : (W.alloc (.cells vs t)).cell? ⟨W.heap.size, j, none⟩ = some v := wc_row (World.alloc_heap_new W (.cells vs t)) h
theorem wc_newf {W : World} {vs : Array Value} {t : TypeId} : (W.alloc (.cells vs t)).frozen? ⟨W.heap.size, 0, none⟩ = false := wc_rowf (World.alloc_heap_new W (.cells vs t))
theorem wc_alloc {W : World} {a : Addr} {v : Value} (o : Obj) (h : W.cell? a = some v) : (W.alloc o).cell? a = some v := cell_kept h (World.grownBy_alloc W o none) (fun r e => by cases e)
theorem wc_falloc {W : World} {a : Addr} {v : Value} (o : Obj) (h : W.cell? a = some v) (hf : W.frozen? a = false) : (W.alloc o).frozen? a = false := (frozen_kept h (World.grownBy_alloc W o none) (fun r e => by cases e)).trans hf
theorem wc_bfr {n : Nat} {A B : World} (h : Below n A B) {b : Nat} (hb : b < n) : B.frozen? ⟨b, 0, none⟩ = A.frozen? ⟨b, 0, none⟩ := by
  simp only [World.frozen?, h.block b hb]
/-- The boxes of find, as its first call sees them and leaves them. -/
def W5 (f : Nat → List UInt8) (first : Int) (s : List UInt8) (w : World) : World := ((((w.alloc (.cells #[Value.string ⟨(f 0).toArray⟩, Value.string ⟨(f 1).toArray⟩, Value.string ⟨(f 2).toArray⟩, Value.string ⟨(f 3).toArray⟩, Value.string ⟨(f 4).toArray⟩, Value.string ⟨(f 5).toArray⟩, Value.string ⟨(f 6).toArray⟩, Value.string ⟨(f 7).toArray⟩, Value.string ⟨(f 8).toArray⟩, Value.string ⟨(f 9).toArray⟩, Value.string ⟨(f 10).toArray⟩, Value.string ⟨(f 11).toArray⟩] 128)).alloc (.cells #[.int .i64 first] 3)).alloc (.cells #[.string ⟨s.toArray⟩] 9)).alloc (.cells #[.int .i64 0] 3)).alloc (.cells #[.int .i64 0] 25)
theorem wf_facts {f : Nat → List UInt8} {first : Int} {s : List UInt8} {w w1 : World} (h : Below (W5 f first s w).heap.size (W5 f first s w) w1) :
    (∀ j, j < 12 → w1.cell? ⟨w.heap.size, j, none⟩ = some (.string ⟨(f j).toArray⟩)) ∧ w1.cell? ⟨w.heap.size + 1, 0, none⟩ = some (.int .i64 first) ∧ (w1.cell? ⟨w.heap.size + 1 + 1, 0, none⟩ = some (.string ⟨s.toArray⟩) ∧ w1.frozen? ⟨w.heap.size + 1 + 1, 0, none⟩ = false) ∧
    (w1.cell? ⟨w.heap.size + 1 + 1 + 1, 0, none⟩ = some (.int .i64 0) ∧ w1.frozen? ⟨w.heap.size + 1 + 1 + 1, 0, none⟩ = false) ∧ (w1.cell? ⟨w.heap.size + 1 + 1 + 1 + 1, 0, none⟩ = some (.int .i64 0) ∧ w1.frozen? ⟨w.heap.size + 1 + 1 + 1 + 1, 0, none⟩ = false) ∧
    Below w.heap.size w w1 ∧ w.heap.size + 1 + 1 + 1 + 1 < w1.heap.size := by
  have hsz : (W5 f first s w).heap.size = w.heap.size + 5 := by simp [W5]
  have hle := h.size
  rw [hsz] at h hle
  obtain ⟨A1, e1⟩ : ∃ A, A = w.alloc (.cells #[Value.string ⟨(f 0).toArray⟩, Value.string ⟨(f 1).toArray⟩, Value.string ⟨(f 2).toArray⟩, Value.string ⟨(f 3).toArray⟩, Value.string ⟨(f 4).toArray⟩, Value.string ⟨(f 5).toArray⟩, Value.string ⟨(f 6).toArray⟩, Value.string ⟨(f 7).toArray⟩, Value.string ⟨(f 8).toArray⟩, Value.string ⟨(f 9).toArray⟩, Value.string ⟨(f 10).toArray⟩, Value.string ⟨(f 11).toArray⟩] 128) := ⟨_, rfl⟩
  obtain ⟨A2, e2⟩ : ∃ A, A = A1.alloc (.cells #[.int .i64 first] 3) := ⟨_, rfl⟩
  obtain ⟨A3, e3⟩ : ∃ A, A = A2.alloc (.cells #[.string ⟨s.toArray⟩] 9) := ⟨_, rfl⟩
  obtain ⟨A4, e4⟩ : ∃ A, A = A3.alloc (.cells #[.int .i64 0] 3) := ⟨_, rfl⟩
  obtain ⟨A5, e5⟩ : ∃ A, A = A4.alloc (.cells #[.int .i64 0] 25) := ⟨_, rfl⟩
  have e6 : W5 f first s w = A5 := by rw [e5, e4, e3, e2, e1]; rfl
  rw [e6] at h
  have s1 : A1.heap.size = w.heap.size + 1 := by rw [e1]; simp
  have s2 : A2.heap.size = w.heap.size + 1 + 1 := by rw [e2]; simp [s1]
  have s3 : A3.heap.size = w.heap.size + 1 + 1 + 1 := by rw [e3]; simp [s2]
  have s4 : A4.heap.size = w.heap.size + 1 + 1 + 1 + 1 := by rw [e4]; simp [s3]
  have k0 : ∀ j, j < 12 → A1.cell? ⟨w.heap.size, j, none⟩ = some (.string ⟨(f j).toArray⟩) := by
    intro j hj
    rw [e1]
    refine wc_new ?_
    have h : j = 0 ∨ j = 1 ∨ j = 2 ∨ j = 3 ∨ j = 4 ∨ j = 5 ∨ j = 6 ∨ j = 7 ∨ j = 8 ∨ j = 9 ∨ j = 10 ∨ j = 11 := by omega
    rcases h with rfl | rfl | rfl | rfl | rfl | rfl | rfl | rfl | rfl | rfl | rfl | rfl <;> rfl
  have k1 : A2.cell? ⟨w.heap.size + 1, 0, none⟩ = some (.int .i64 first) := by rw [← s1, e2]; exact wc_new rfl
  have k2 : A3.cell? ⟨w.heap.size + 1 + 1, 0, none⟩ = some (.string ⟨s.toArray⟩) := by rw [← s2, e3]; exact wc_new rfl
  have f2 : A3.frozen? ⟨w.heap.size + 1 + 1, 0, none⟩ = false := by rw [← s2, e3]; exact wc_newf
  have k3 : A4.cell? ⟨w.heap.size + 1 + 1 + 1, 0, none⟩ = some (.int .i64 0) := by rw [← s3, e4]; exact wc_new rfl
  have f3 : A4.frozen? ⟨w.heap.size + 1 + 1 + 1, 0, none⟩ = false := by rw [← s3, e4]; exact wc_newf
  have k4 : A5.cell? ⟨w.heap.size + 1 + 1 + 1 + 1, 0, none⟩ = some (.int .i64 0) := by rw [← s4, e5]; exact wc_new rfl
  have f4 : A5.frozen? ⟨w.heap.size + 1 + 1 + 1 + 1, 0, none⟩ = false := by rw [← s4, e5]; exact wc_newf
  have hB : Below w.heap.size w A5 := by
    rw [e5, e4, e3, e2, e1]
    exact (((((Below.refl _ w).alloc (Nat.le_refl _) _).alloc (by simp) _).alloc (by simp; omega) _).alloc (by simp; omega) _).alloc (by simp; omega) _
  refine ⟨fun j hj => ?_, ?_, ⟨?_, ?_⟩, ⟨?_, ?_⟩, ⟨?_, ?_⟩, ?_, by omega⟩
  · rw [h.cell (p := ⟨w.heap.size, j, none⟩) (by simp), e5]
    refine wc_alloc _ ?_; rw [e4]; refine wc_alloc _ ?_; rw [e3]; refine wc_alloc _ ?_; rw [e2]; exact wc_alloc _ (k0 j hj)
  · rw [h.cell (p := ⟨w.heap.size + 1, 0, none⟩) (by simp), e5]
    refine wc_alloc _ ?_; rw [e4]; refine wc_alloc _ ?_; rw [e3]; exact wc_alloc _ k1
  · rw [h.cell (p := ⟨w.heap.size + 1 + 1, 0, none⟩) (by simp), e5]
    refine wc_alloc _ ?_; rw [e4]; exact wc_alloc _ k2
  · rw [wc_bfr h (by omega), e5]
    have c4 : A4.cell? ⟨w.heap.size + 1 + 1, 0, none⟩ = some (.string ⟨s.toArray⟩) := by rw [e4]; exact wc_alloc _ k2
    refine wc_falloc _ c4 ?_; rw [e4]; exact wc_falloc _ k2 f2
  · rw [h.cell (p := ⟨w.heap.size + 1 + 1 + 1, 0, none⟩) (by simp), e5]
    exact wc_alloc _ k3
  · rw [wc_bfr h (by omega), e5]
    exact wc_falloc _ k3 f3
  · rw [h.cell (p := ⟨w.heap.size + 1 + 1 + 1 + 1, 0, none⟩) (by simp)]; exact k4
  · rw [wc_bfr h (by omega)]; exact f4
  · exact hB.trans (h.mono (by omega))

/-- The world in which the loop begins. -/
def W7 (B : Nat) (t : List UInt8) (w1 : World) : World := ((w1.setCell ⟨B, 0, none⟩ (.string ⟨t.toArray⟩)).alloc (.cells #[.int .i64 0] 3)).alloc (.cells #[.int .i64 0] 3)
theorem wf_facts7 {f : Nat → List UInt8} {first : Int} {s : List UInt8} (t : List UInt8) {w w1 : World} (h : Below (W5 f first s w).heap.size (W5 f first s w) w1) :
    (∀ j, j < 12 → (W7 (w.heap.size + 1 + 1) t w1).cell? ⟨w.heap.size, j, none⟩ = some (.string ⟨(f j).toArray⟩)) ∧ (W7 (w.heap.size + 1 + 1) t w1).cell? ⟨w.heap.size + 1, 0, none⟩ = some (.int .i64 first) ∧
    (W7 (w.heap.size + 1 + 1) t w1).cell? ⟨w.heap.size + 1 + 1, 0, none⟩ = some (.string ⟨t.toArray⟩) ∧
    ((W7 (w.heap.size + 1 + 1) t w1).cell? ⟨w.heap.size + 1 + 1 + 1, 0, none⟩ = some (.int .i64 0) ∧ (W7 (w.heap.size + 1 + 1) t w1).frozen? ⟨w.heap.size + 1 + 1 + 1, 0, none⟩ = false) ∧
    ((W7 (w.heap.size + 1 + 1) t w1).cell? ⟨w.heap.size + 1 + 1 + 1 + 1, 0, none⟩ = some (.int .i64 0) ∧ (W7 (w.heap.size + 1 + 1) t w1).frozen? ⟨w.heap.size + 1 + 1 + 1 + 1, 0, none⟩ = false) ∧
    ((W7 (w.heap.size + 1 + 1) t w1).cell? ⟨w1.heap.size, 0, none⟩ = some (.int .i64 0) ∧ (W7 (w.heap.size + 1 + 1) t w1).frozen? ⟨w1.heap.size, 0, none⟩ = false) ∧
    ((W7 (w.heap.size + 1 + 1) t w1).cell? ⟨w1.heap.size + 1, 0, none⟩ = some (.int .i64 0) ∧ (W7 (w.heap.size + 1 + 1) t w1).frozen? ⟨w1.heap.size + 1, 0, none⟩ = false) ∧
    Below w.heap.size w (W7 (w.heap.size + 1 + 1) t w1) ∧ (W7 (w.heap.size + 1 + 1) t w1).heap.size = w1.heap.size + 1 + 1 := by
  obtain ⟨d0, d1, ⟨d2, g2⟩, ⟨d3, g3⟩, ⟨d4, g4⟩, hB1, hz1⟩ := wf_facts h
  obtain ⟨A1, e1⟩ : ∃ A, A = w1.setCell ⟨w.heap.size + 1 + 1, 0, none⟩ (.string ⟨t.toArray⟩) := ⟨_, rfl⟩
  obtain ⟨A2, e2⟩ : ∃ A, A = A1.alloc (.cells #[.int .i64 0] 3) := ⟨_, rfl⟩
  have e3 : W7 (w.heap.size + 1 + 1) t w1 = A2.alloc (.cells #[.int .i64 0] 3) := by rw [e2, e1]; rfl
  have s1 : A1.heap.size = w1.heap.size := by rw [e1]; simp
  have s2 : A2.heap.size = w1.heap.size + 1 := by rw [e2]; simp [s1]
  have k0 : ∀ j, j < 12 → A1.cell? ⟨w.heap.size, j, none⟩ = some (.string ⟨(f j).toArray⟩) := fun j hj => by rw [e1, wc_other (by simp)]; exact d0 j hj
  have k1 : A1.cell? ⟨w.heap.size + 1, 0, none⟩ = some (.int .i64 first) := by rw [e1, wc_other (by simp)]; exact d1
  have k2 : A1.cell? ⟨w.heap.size + 1 + 1, 0, none⟩ = some (.string ⟨t.toArray⟩) := by rw [e1]; exact World.cell?_setCell_same' _ _ _ (by rw [d2]; rfl)
  have k3 : A1.cell? ⟨w.heap.size + 1 + 1 + 1, 0, none⟩ = some (.int .i64 0) := by rw [e1, wc_other (by simp)]; exact d3
  have f3 : A1.frozen? ⟨w.heap.size + 1 + 1 + 1, 0, none⟩ = false := by rw [e1, World.frozen?_setCell]; exact g3
  have k4 : A1.cell? ⟨w.heap.size + 1 + 1 + 1 + 1, 0, none⟩ = some (.int .i64 0) := by rw [e1, wc_other (by simp)]; exact d4
  have f4 : A1.frozen? ⟨w.heap.size + 1 + 1 + 1 + 1, 0, none⟩ = false := by rw [e1, World.frozen?_setCell]; exact g4
  have hB : Below w.heap.size w A1 := by rw [e1]; exact hB1.setCell (p := ⟨w.heap.size + 1 + 1, 0, none⟩) (by simp; omega) _
  have l2 : ∀ {a v}, A1.cell? a = some v → A2.cell? a = some v := fun h => by rw [e2]; exact wc_alloc _ h
  have m2 : ∀ {a v}, A1.cell? a = some v → A1.frozen? a = false → A2.frozen? a = false := fun h h' => by rw [e2]; exact wc_falloc _ h h'
  have n2 : A2.cell? ⟨w1.heap.size, 0, none⟩ = some (.int .i64 0) := by rw [e2, ← s1]; exact wc_new rfl
  have o2 : A2.frozen? ⟨w1.heap.size, 0, none⟩ = false := by rw [e2, ← s1]; exact wc_newf
  rw [e3]
  refine ⟨fun j hj => wc_alloc _ (l2 (k0 j hj)), wc_alloc _ (l2 k1), wc_alloc _ (l2 k2), ⟨wc_alloc _ (l2 k3), wc_falloc _ (l2 k3) (m2 k3 f3)⟩, ⟨wc_alloc _ (l2 k4), wc_falloc _ (l2 k4) (m2 k4 f4)⟩, ⟨wc_alloc _ n2, wc_falloc _ n2 o2⟩, ⟨?_, ?_⟩, ?_, by simp [s2]⟩
  · rw [← s2]; exact wc_new rfl
  · rw [← s2]; exact wc_newf
  · have hle := hB.size
    rw [e2]
    exact (hB.alloc (by omega) _).alloc (by simp; omega) _

set_option maxRecDepth 100000 in
set_option maxHeartbeats 8000000 in
theorem wf_find (n : Nat) (hn : 3 ≤ n) (ws : List (List UInt8)) (hw : ws.length = 12) (f : Nat → List UInt8) (hf : ∀ j, j < 12 → f j = ws[j]?.getD []) (first : Int) (h1 : 0 ≤ first) (h2 : first ≤ 1000) (s : List UInt8) (hs : s.length < 4611686018427387904) (w : World) :
    CallsIn Fence.wide n Tryd.prog 97 #[.agg #[Value.string ⟨(f 0).toArray⟩, Value.string ⟨(f 1).toArray⟩, Value.string ⟨(f 2).toArray⟩, Value.string ⟨(f 3).toArray⟩, Value.string ⟨(f 4).toArray⟩, Value.string ⟨(f 5).toArray⟩, Value.string ⟨(f 6).toArray⟩, Value.string ⟨(f 7).toArray⟩, Value.string ⟨(f 8).toArray⟩, Value.string ⟨(f 9).toArray⟩, Value.string ⟨(f 10).toArray⟩, Value.string ⟨(f 11).toArray⟩], .int .i64 first, .string ⟨s.toArray⟩] w fun e W' => e = .returned (.tuple #[.int .i64 (findV ws first (Sm.smallV s)).1, .int .i64 (findV ws first (Sm.smallV s)).2]) ∧ Below w.heap.size w W' := by
  have hn1 : 1 ≤ n := by omega
  refine callsIn_of_wp_marks Tryd.func97 rfl trivial ?_ rfl
  simp only [Tryd.ntmps97, List.size_toArray, List.length_cons, List.length_nil, Nat.reduceAdd, Nat.reduceSub, Array.replicate_succ, Array.replicate_zero, List.push_toArray, List.append_toArray, List.nil_append, List.cons_append]
  have Hf := Lib.hid hf
  have Hw := Lib.hid hw
  have Hs := Lib.hid (small_calls s hs)
  clear hf hw hs
  gi_wp2_with (refine ⟨trivial, ?_⟩; gi_at_call 128; refine (callsIn_wide.2 (Hs.out _)).mono ?_; rintro e w1 ⟨rfl, hb1⟩; have hst := (wf_facts hb1).2.2.1; have HQ := Lib.hid (wf_facts hb1).2.2.2.2.2.2; have F7 := Lib.hid (wf_facts7 (Sm.smallV s) hb1); obtain ⟨d0, d1, d2, _⟩ := wf_facts7 (Sm.smallV s) hb1; clear hb1; have b0 := d0 0 (by omega); have b1 := d0 1 (by omega); have b2 := d0 2 (by omega); have b3 := d0 3 (by omega); have b4 := d0 4 (by omega); have b5 := d0 5 (by omega); have b6 := d0 6 (by omega); have b7 := d0 7 (by omega); have b8 := d0 8 (by omega); have b9 := d0 9 (by omega); have b10 := d0 10 (by omega); have b11 := d0 11 (by omega); unfold W7 at b0 b1 b2 b3 b4 b5 b6 b7 b8 b9 b10 b11 d1 d2; obtain ⟨st1, st2⟩ := hst; clear d0)
  refine ⟨trivial, ?_⟩
  have F8 := F7.out
  obtain ⟨w7, e7⟩ : ∃ w7, w7 = W7 (w.heap.size + 1 + 1) (Sm.smallV s) w1 := ⟨_, rfl⟩
  have e7' : ((w1.setCell ⟨w.heap.size + 1 + 1, 0, none⟩ (.string ⟨(Sm.smallV s).toArray⟩)).alloc (.cells #[.int .i64 0] 3)).alloc (.cells #[.int .i64 0] 3) = w7 := e7.symm
  rw [← e7] at F8
  rw [e7']
  clear F7 b0 b1 b2 b3 b4 b5 b6 b7 b8 b9 b10 b11 d1 d2 st1 st2 e7 e7'
  obtain ⟨d0, d1, d2, ⟨d3, g3⟩, ⟨d4, g4⟩, ⟨d5, g5⟩, ⟨d6, g6⟩, hB, hsz⟩ := F8
  generalize w1.heap.size = q at *
  generalize ht : Sm.smallV s = t at *
  have HT := Lib.hid ht
  clear ht
  refine (wf_maker (n - 1) f t w7).mono ?_
  rintro e w8 ⟨rfl, e8⟩
  have D0 := Lib.hid d0
  have DB := Lib.hid hB
  have HZ := Lib.hid hsz
  have E8 := Lib.hid e8
  clear d0 hB hsz e8
  gi_wp2
  have hB8 : Below w.heap.size w w8 := by
    rw [E8.out]
    exact (DB.out.alloc DB.out.size _).alloc (by have := DB.out.size; simp; omega) _
  have j0 : ∀ j, j < 12 → w8.cell? ⟨w7.heap.size, j, none⟩ = some (.string ⟨(f j).toArray⟩) := by
    intro j hj
    rw [E8.out]
    refine wc_alloc _ (wc_new ?_)
    have h : j = 0 ∨ j = 1 ∨ j = 2 ∨ j = 3 ∨ j = 4 ∨ j = 5 ∨ j = 6 ∨ j = 7 ∨ j = 8 ∨ j = 9 ∨ j = 10 ∨ j = 11 := by omega
    rcases h with rfl | rfl | rfl | rfl | rfl | rfl | rfl | rfl | rfl | rfl | rfl | rfl <;> rfl
  have j1 : w8.cell? ⟨w7.heap.size + 1, 0, none⟩ = some (.string ⟨t.toArray⟩) := by
    have := wc_new (W := w7.alloc (.cells #[Value.string ⟨(f 0).toArray⟩, Value.string ⟨(f 1).toArray⟩, Value.string ⟨(f 2).toArray⟩, Value.string ⟨(f 3).toArray⟩, Value.string ⟨(f 4).toArray⟩, Value.string ⟨(f 5).toArray⟩, Value.string ⟨(f 6).toArray⟩, Value.string ⟨(f 7).toArray⟩, Value.string ⟨(f 8).toArray⟩, Value.string ⟨(f 9).toArray⟩, Value.string ⟨(f 10).toArray⟩, Value.string ⟨(f 11).toArray⟩] 128)) (vs := #[.string ⟨t.toArray⟩]) (t := 9) (j := 0) (v := .string ⟨t.toArray⟩) rfl
    rw [World.size_alloc] at this
    rw [E8.out]
    exact this
  have l8 : ∀ {a v}, w7.cell? a = some v → w8.cell? a = some v := fun h => by rw [E8.out]; exact wc_alloc _ (wc_alloc _ h)
  have m8 : ∀ {a v}, w7.cell? a = some v → w7.frozen? a = false → w8.frozen? a = false := fun h h' => by rw [E8.out]; exact wc_falloc _ (wc_alloc _ h) (wc_falloc _ h h')
  have hs8 : w8.heap.size = w7.heap.size + 1 + 1 := by rw [E8.out]; simp
  have hle := hB8.size
  refine wpIn_rangeFunc_ownF rfl hn1 (gf := 148) (lb := #[.pointer (some ⟨w7.heap.size, 0, none⟩), .pointer (some ⟨w7.heap.size + 1, 0, none⟩)]) rfl trivial (enters_of Tryd.func148 (by kernel_rfl) rfl)
    (wf_stops (n - 1) (by omega) w7.heap.size (w7.heap.size + 1) ws t Hw.out f Hf.out _ (by rw [hs8]; omega) (by rw [hs8]; omega) j0 j1) (fun h k => Eq.trans k h)
    (fun W l o o' hl h h1 h2 => (belowK_b (n₀ := w8.heap.size) (w := w8) (Nat.le_refl _) W l o o' hl h h1 h2).cell (p := ⟨w7.heap.size + 1, 0, none⟩) (by rw [hs8]; exact Nat.lt_succ_self _)) (Below.refl _ _) (fun _ => rfl)
    (fun pre W => ((∀ y ∈ pre, y.2 ≠ t) ∧ W.cell? ⟨w.heap.size + 1, 0, none⟩ = some (.int .i64 first) ∧ W.cell? ⟨w.heap.size + 1 + 1, 0, none⟩ = some (.string ⟨t.toArray⟩) ∧
      (W.cell? ⟨w.heap.size + 1 + 1 + 1, 0, none⟩ = some (.int .i64 0) ∧ W.frozen? ⟨w.heap.size + 1 + 1 + 1, 0, none⟩ = false) ∧ (W.cell? ⟨w.heap.size + 1 + 1 + 1 + 1, 0, none⟩ = some (.int .i64 0) ∧ W.frozen? ⟨w.heap.size + 1 + 1 + 1 + 1, 0, none⟩ = false) ∧
      (W.cell? ⟨q, 0, none⟩ = some (.int .i64 (lastF pre first)) ∧ W.frozen? ⟨q, 0, none⟩ = false) ∧ (W.cell? ⟨q + 1, 0, none⟩ = some (.int .i64 pre.length) ∧ W.frozen? ⟨q + 1, 0, none⟩ = false)) ∧ Below w.heap.size w W)
    (fun c pre W => (c = .ret ∧ (∃ (p : List (Nat × List UInt8)) (i : Nat), pre = p ++ [(i, t)] ∧ (∀ y ∈ p, y.2 ≠ t) ∧ W.cell? ⟨w.heap.size + 1 + 1 + 1, 0, none⟩ = some (.int .i64 (wrap64 (i + first)))) ∧ W.cell? ⟨w.heap.size + 1 + 1 + 1 + 1, 0, none⟩ = some (.int .i64 0)) ∧ Below w.heap.size w W)
    (OwnFrom.and (Own.from (fun s A B row hs hg hr => ⟨hs.1, cell_kept hs.2.1 hg hr, cell_kept hs.2.2.1 hg hr, ⟨cell_kept hs.2.2.2.1.1 hg hr, (frozen_kept hs.2.2.2.1.1 hg hr).trans hs.2.2.2.1.2⟩, ⟨cell_kept hs.2.2.2.2.1.1 hg hr, (frozen_kept hs.2.2.2.2.1.1 hg hr).trans hs.2.2.2.2.1.2⟩,
      ⟨cell_kept hs.2.2.2.2.2.1.1 hg hr, (frozen_kept hs.2.2.2.2.2.1.1 hg hr).trans hs.2.2.2.2.2.1.2⟩, ⟨cell_kept hs.2.2.2.2.2.2.1 hg hr, (frozen_kept hs.2.2.2.2.2.2.1 hg hr).trans hs.2.2.2.2.2.2.2⟩⟩) _) (ownFrom_below (Nat.le_refl _) hle))
    (fun c => OwnFrom.and (Own.from (fun s A B row hs hg hr => ⟨hs.1, by obtain ⟨p, i, h1, h2, h3⟩ := hs.2.1; exact ⟨p, i, h1, h2, cell_kept h3 hg hr⟩, cell_kept hs.2.2 hg hr⟩) _) (ownFrom_below (Nat.le_refl _) hle))
    ⟨⟨by simp, l8 d1, l8 d2, ⟨l8 d3, m8 d3 g3⟩, ⟨l8 d4, m8 d4 g4⟩, ⟨l8 d5, m8 d5 g5⟩, ⟨l8 d6, m8 d6 g6⟩⟩, hB8⟩
    (fun x => { tmps := #[.agg #[Value.string ⟨(f 0).toArray⟩, Value.string ⟨(f 1).toArray⟩, Value.string ⟨(f 2).toArray⟩, Value.string ⟨(f 3).toArray⟩, Value.string ⟨(f 4).toArray⟩, Value.string ⟨(f 5).toArray⟩, Value.string ⟨(f 6).toArray⟩, Value.string ⟨(f 7).toArray⟩, Value.string ⟨(f 8).toArray⟩, Value.string ⟨(f 9).toArray⟩, Value.string ⟨(f 10).toArray⟩, Value.string ⟨(f 11).toArray⟩], .int .i64 first, .string ⟨s.toArray⟩, .pointer (some ⟨w.heap.size, 0, none⟩), .pointer (some ⟨w.heap.size + 1, 0, none⟩), .pointer (some ⟨w.heap.size + 1 + 1, 0, none⟩), .pointer (some ⟨w.heap.size + 1 + 1 + 1, 0, none⟩), .pointer (some ⟨w.heap.size + 1 + 1 + 1 + 1, 0, none⟩), .pointer (some ⟨q, 0, none⟩), .pointer (some ⟨q + 1, 0, none⟩), .int .i64 (x.1 : Int), .string ⟨x.2.toArray⟩, .string ⟨s.toArray⟩, .string ⟨t.toArray⟩, .agg #[Value.string ⟨(f 0).toArray⟩, Value.string ⟨(f 1).toArray⟩, Value.string ⟨(f 2).toArray⟩, Value.string ⟨(f 3).toArray⟩, Value.string ⟨(f 4).toArray⟩, Value.string ⟨(f 5).toArray⟩, Value.string ⟨(f 6).toArray⟩, Value.string ⟨(f 7).toArray⟩, Value.string ⟨(f 8).toArray⟩, Value.string ⟨(f 9).toArray⟩, Value.string ⟨(f 10).toArray⟩, Value.string ⟨(f 11).toArray⟩], .string ⟨t.toArray⟩, .func (.func 148) #[] #[.pointer (some ⟨w7.heap.size, 0, none⟩), .pointer (some ⟨w7.heap.size + 1, 0, none⟩)], .int .i64 (x.1 : Int), .string ⟨x.2.toArray⟩, undef, undef, undef, undef, undef, undef, undef, undef, undef, undef, undef, undef, undef, undef, undef, undef, undef, undef], defers := [] }) ?assign ?body ?done ?stop
  case assign =>
    intro l x W K hK
    gi_wp2
    exact hK
  case body =>
    rintro l pre ⟨i, x⟩ W ⟨⟨hp, c1, c2, ⟨c3, k3⟩, ⟨c4, k4⟩, ⟨c5, k5⟩, ⟨c6, k6⟩⟩, hBW⟩ hpl
    have HP := Lib.hid hp
    clear hp
    have hq := HQ.out
    have hz := HZ.out
    have a1 : ∀ v, (W.setCell ⟨q, 0, none⟩ v).cell? ⟨q + 1, 0, none⟩ = W.cell? ⟨q + 1, 0, none⟩ := fun v => wc_other (by simp)
    gi_wp2
    · obtain rfl : x = t := eq_of_beq ‹_›
      exact ⟨(KeepsOthers.setCell _ _ _).trans (KeepsOthers.setCell _ _ _), ⟨rfl, ⟨pre, i, rfl, HP.out, by rw [wc_other (by simp)]; exact World.cell?_setCell_same' _ _ _ (by rw [c3]; rfl)⟩, World.cell?_setCell_same' _ _ _ (by rw [wc_other (by simp), c4]; rfl)⟩,
        (hBW.setCell (p := ⟨w.heap.size + 1 + 1 + 1, 0, none⟩) (by simp; omega) _).setCell (p := ⟨w.heap.size + 1 + 1 + 1 + 1, 0, none⟩) (by simp; omega) _⟩
    · have hne : x ≠ t := fun e => by subst e; simp at *
      have o : ∀ {b : Nat} {v v' : Value}, b ≠ q → b ≠ q + 1 → ((W.setCell ⟨q, 0, none⟩ v).setCell ⟨q + 1, 0, none⟩ v').cell? ⟨b, 0, none⟩ = W.cell? ⟨b, 0, none⟩ := fun h h' => by rw [wc_other (by simp <;> omega), wc_other (by simp <;> omega)]
      refine ⟨(KeepsOthers.setCell _ _ _).trans (KeepsOthers.setCell _ _ _), o (by omega) (by omega), ⟨fun y hy => (List.mem_append.1 hy).elim (HP.out y) (fun e => by simp at e; subst e; exact hne), (o (by omega) (by omega)).trans c1, (o (by omega) (by omega)).trans c2,
        ⟨(o (by omega) (by omega)).trans c3, by rw [World.frozen?_setCell, World.frozen?_setCell]; exact k3⟩, ⟨(o (by omega) (by omega)).trans c4, by rw [World.frozen?_setCell, World.frozen?_setCell]; exact k4⟩,
        ⟨?_, by rw [World.frozen?_setCell, World.frozen?_setCell]; exact k5⟩, ⟨?_, by rw [World.frozen?_setCell, World.frozen?_setCell]; exact k6⟩⟩, (hBW.setCell (p := ⟨q, 0, none⟩) (by simp; omega) _).setCell (p := ⟨q + 1, 0, none⟩) (by simp; omega) _⟩
      · rw [wc_other (by simp), lastF_snoc]
        exact World.cell?_setCell_same' _ _ _ (by rw [c5]; rfl)
      · rw [List.length_append]
        exact World.cell?_setCell_same' _ _ _ (by rw [wc_other (by simp), c6]; rfl)
  case done =>
    rintro D ys W hD rfl ⟨⟨hp, c1, c2, ⟨c3, k3⟩, ⟨c4, k4⟩, ⟨c5, k5⟩, ⟨c6, k6⟩⟩, hBW⟩ hK
    have hfn : (hits t 0 ws).find? (fun p => p.2 == t) = none := by
      rw [List.find?_eq_none]
      intro y hy
      have := hp y hy
      simpa using this
    have hv : findV ws first t = if t = [] ∨ (hits t 0 ws).length ≠ 1 then (0, 8) else (lastF (hits t 0 ws) first, 0) := by unfold findV; rw [hfn]
    have HV := Lib.hid hv
    clear hp hfn hv
    have hend : ∀ (a b : Int), (findV ws first t = (a, b)) → (bodyPostM Fence.wide n Tryd.prog Tryd.f97 (fun e W' => e = .returned (.tuple #[.int .i64 (findV ws first (Sm.smallV s)).1, .int .i64 (findV ws first (Sm.smallV s)).2]) ∧ Below w.heap.size w W')) .ret
        { tmps := #[], defers := [] } W → True := fun _ _ _ _ => trivial
    clear hend
    have q3 : ∀ (a b : Int), ((W.setCell ⟨w.heap.size + 1 + 1 + 1, 0, none⟩ (.int .i64 a)).setCell ⟨w.heap.size + 1 + 1 + 1 + 1, 0, none⟩ (.int .i64 b)).cell? ⟨w.heap.size + 1 + 1 + 1, 0, none⟩ = some (.int .i64 a) := fun a b => by rw [wc_other (by simp)]; exact World.cell?_setCell_same' _ _ _ (by rw [c3]; rfl)
    have q4 : ∀ (a b : Int), ((W.setCell ⟨w.heap.size + 1 + 1 + 1, 0, none⟩ (.int .i64 a)).setCell ⟨w.heap.size + 1 + 1 + 1 + 1, 0, none⟩ (.int .i64 b)).cell? ⟨w.heap.size + 1 + 1 + 1 + 1, 0, none⟩ = some (.int .i64 b) := fun a b => World.cell?_setCell_same' _ _ _ (by rw [wc_other (by simp), c4]; rfl)
    have qK : ∀ (a b : Int), ((W.setCell ⟨w.heap.size + 1 + 1 + 1, 0, none⟩ (.int .i64 a)).setCell ⟨w.heap.size + 1 + 1 + 1 + 1, 0, none⟩ (.int .i64 b)).heap[D]? = some (.deferred (some [])) := fun a b => ((KeepsOthers.setCell W ⟨w.heap.size + 1 + 1 + 1, 0, none⟩ (.int .i64 a)).trans (KeepsOthers.setCell _ ⟨w.heap.size + 1 + 1 + 1 + 1, 0, none⟩ (.int .i64 b))).same D _ hK rfl
    have qB : ∀ (a b : Int), Below w.heap.size w ((W.setCell ⟨w.heap.size + 1 + 1 + 1, 0, none⟩ (.int .i64 a)).setCell ⟨w.heap.size + 1 + 1 + 1 + 1, 0, none⟩ (.int .i64 b)) := fun a b => (hBW.setCell (p := ⟨w.heap.size + 1 + 1 + 1, 0, none⟩) (by simp; omega) _).setCell (p := ⟨w.heap.size + 1 + 1 + 1 + 1, 0, none⟩) (by simp; omega) _
    have Q3 := Lib.hid q3
    have Q4 := Lib.hid q4
    have QK := Lib.hid qK
    have QB := Lib.hid qB
    clear q3 q4 qK qB
    gi_wp2
    · have hv := HV.out
      rw [if_pos (.inl ‹_›)] at hv
      refine ⟨by simp, .inl ⟨_, _, rfl, run_takeDeferred (QK.out 0 8), ?_⟩⟩
      have k0 := cell_kept (Q3.out 0 8) (grownBy_putObj' _ D (.deferred none)) (fun r e => by cases e; exact ⟨_, QK.out 0 8, rfl⟩)
      have k1 := cell_kept (Q4.out 0 8) (grownBy_putObj' _ D (.deferred none)) (fun r e => by cases e; exact ⟨_, QK.out 0 8, rfl⟩)
      refine ⟨.tuple #[.int .i64 0, .int .i64 8], ?_, by rw [HT.out, hv], (QB.out 0 8).trans (belowK_b (w := w8) hle _ D _ _ hD (QK.out 0 8) rfl rfl)⟩
      simp [results, Tryd.f97, go_sem, k0, k1]
    · rename_i ht0 hor
      have hlen : (hits t 0 ws).length ≠ 1 := by
        rcases hor with e | e
        · exact absurd (List.isEmpty_iff.1 e) ht0
        · intro q; rw [q] at e; cases e
      have hv := HV.out
      rw [if_pos (.inr hlen)] at hv
      refine ⟨by simp, .inl ⟨_, _, rfl, run_takeDeferred (QK.out 0 8), ?_⟩⟩
      have k0 := cell_kept (Q3.out 0 8) (grownBy_putObj' _ D (.deferred none)) (fun r e => by cases e; exact ⟨_, QK.out 0 8, rfl⟩)
      have k1 := cell_kept (Q4.out 0 8) (grownBy_putObj' _ D (.deferred none)) (fun r e => by cases e; exact ⟨_, QK.out 0 8, rfl⟩)
      refine ⟨.tuple #[.int .i64 0, .int .i64 8], ?_, by rw [HT.out, hv], (QB.out 0 8).trans (belowK_b (w := w8) hle _ D _ _ hD (QK.out 0 8) rfl rfl)⟩
      simp [results, Tryd.f97, go_sem, k0, k1]
    · rename_i ht0 hor
      have hlen : (hits t 0 ws).length = 1 := by
        have e := hor.2
        have e : ((hits t 0 ws).length : Int) = 1 := by simpa using e
        omega
      have hv := HV.out
      rw [if_neg (fun h => h.elim ht0 (fun q => q hlen))] at hv
      refine ⟨by simp, .inl ⟨_, _, rfl, run_takeDeferred (QK.out (lastF (hits t 0 ws) first) 0), ?_⟩⟩
      have k0 := cell_kept (Q3.out (lastF (hits t 0 ws) first) 0) (grownBy_putObj' _ D (.deferred none)) (fun r e => by cases e; exact ⟨_, QK.out (lastF (hits t 0 ws) first) 0, rfl⟩)
      have k1 := cell_kept (Q4.out (lastF (hits t 0 ws) first) 0) (grownBy_putObj' _ D (.deferred none)) (fun r e => by cases e; exact ⟨_, QK.out (lastF (hits t 0 ws) first) 0, rfl⟩)
      refine ⟨.tuple #[.int .i64 (lastF (hits t 0 ws) first), .int .i64 0], ?_, by rw [HT.out, hv], (QB.out (lastF (hits t 0 ws) first) 0).trans (belowK_b (w := w8) hle _ D _ _ hD (QK.out (lastF (hits t 0 ws) first) 0) rfl rfl)⟩
      simp [results, Tryd.f97, go_sem, k0, k1]
  case stop =>
    rintro D c pre W hD hpre ⟨⟨rfl, ⟨p, i, rfl, hp, c3⟩, c4⟩, hBW⟩ hK
    have hv : findV ws first t = (wrap64 (i + first), 0) := by
      obtain ⟨r, hr⟩ := hpre
      have hfn : p.find? (fun p => p.2 == t) = none := by
        rw [List.find?_eq_none]
        intro y hy
        have := hp y hy
        simpa using this
      unfold findV
      rw [← hr, List.find?_append, List.find?_append, hfn]
      simp
    have HV := Lib.hid hv
    clear hv hp hpre
    gi_wp2
    refine ⟨by simp, .inl ⟨_, _, rfl, run_takeDeferred hK, ?_⟩⟩
    have k0 := cell_kept c3 (grownBy_putObj' _ D (.deferred none)) (fun r e => by cases e; exact ⟨_, hK, rfl⟩)
    have k1 := cell_kept c4 (grownBy_putObj' _ D (.deferred none)) (fun r e => by cases e; exact ⟨_, hK, rfl⟩)
    refine ⟨.tuple #[.int .i64 (wrap64 (i + first)), .int .i64 0], ?_, by rw [HT.out, HV.out], hBW.trans (belowK_b (w := w8) hle _ D _ _ hD hK rfl rfl)⟩
    simp [results, Tryd.f97, go_sem, k0, k1]

/-! As a function of plain data. -/
def takeS : Nat → List Ax.Dat → Option (List (List UInt8) × List Ax.Dat)
  | 0, ds => some ([], ds)
  | n + 1, .s w :: ds => (takeS n ds).map fun p => (w :: p.1, p.2)
  | _, _ => none
noncomputable def wordFind : List Ax.Dat → Option (List Ax.Dat) := fun ds =>
  Option.bind (takeS 12 ds) fun p => Ax.onI p.2 fun first ds => Ax.onS ds fun s _ => if 0 ≤ first ∧ first ≤ 1000 ∧ s.length < 4611686018427387904 then some [.i (findV p.1 first (Sm.smallV s)).1, .i (findV p.1 first (Sm.smallV s)).2] else none
theorem gets_strs {n : Nat} : ∀ (k : Nat) (c : List Ax.AV) (a : List Ax.Dat), Ax.getsWith (Ax.Sh.get [] (n + 1)) (List.replicate k .str) c = some a →
    ∃ us : List Ax.S, c = us.map Ax.AV.str ∧ us.length = k ∧ ∀ rest, takeS k (a ++ rest) = some (us.map (·.v), rest)
  | 0, c, a, h => by
    obtain ⟨rfl, rfl⟩ := Ax.gets_nil h
    exact ⟨[], rfl, rfl, fun _ => rfl⟩
  | k + 1, c, a, h => by
    obtain ⟨v, vs, x, y, rfl, rfl, h1, h2⟩ := Ax.gets_cons (s := .str) (ss := List.replicate k .str) h
    obtain ⟨u, rfl, rfl⟩ := Ax.get_str h1
    obtain ⟨us, rfl, hl, ht⟩ := gets_strs k vs y h2
    refine ⟨u :: us, rfl, by simp [hl], fun rest => ?_⟩
    show (takeS k (y ++ rest)).map _ = _
    rw [ht rest]; rfl
theorem get_agg {l : List Ax.Sh} {v : Ax.AV} {a : List Ax.Dat} {n : Nat} (h : Ax.Sh.get [] (n + 1) (.agg l) v = some a) : ∃ lit c, v = .agg lit c ∧ Ax.getsWith (Ax.Sh.get [] n) l c = some a := by
  cases v with
  | agg lit c => exact ⟨lit, c, rfl, h⟩
  | _ => cases h
theorem vr_three {S : Nat → Prop} {W : World} {ρ : Ax.Rho} {x y z : Ax.AV} {vs : List Value} (h : Ax.VRL S W ρ [x, y, z] vs) : ∃ u v w, vs = [u, v, w] ∧ Ax.VR S W ρ x u ∧ Ax.VR S W ρ y v ∧ Ax.VR S W ρ z w := by
  match vs, h with
  | [u, v, w], h => exact ⟨u, v, w, rfl, h.2 0 _ _ rfl rfl, h.2 1 _ _ rfl rfl, h.2 2 _ _ rfl rfl⟩
  | [], h => exact absurd h.1 (by simp)
  | [_], h => exact absurd h.1 (by simp)
  | [_, _], h => exact absurd h.1 (by simp)
  | _ :: _ :: _ :: _ :: _, h => exact absurd h.1 (by simp)
theorem wordFind_ok {G : Nat → Option (List Ax.AV)} : Ax.FnOk Tryd.prog G 97 ⟨[.agg [.str, .str, .str, .str, .str, .str, .str, .str, .str, .str, .str, .str], .int .i64, .str], .tuple [.int .i64, .int .i64], wordFind⟩ := by
  refine Ax.FnOk.of_calls (c := code97) Tryd.func97 (by kernel_rfl) (by kernel_rfl) fun xs ds r h1 h2 => ?_
  obtain ⟨v, vs, a, b, rfl, rfl, h3, h4⟩ := Ax.gets_cons h1
  obtain ⟨v2, vs2, a2, b2, rfl, rfl, h5, h6⟩ := Ax.gets_cons h4
  obtain ⟨v3, vs3, a3, b3, rfl, rfl, h7, h8⟩ := Ax.gets_cons h6
  obtain ⟨rfl, rfl⟩ := Ax.gets_nil h8
  obtain ⟨lit, c, rfl, h3⟩ := get_agg h3
  obtain ⟨us, rfl, hul, htk⟩ := gets_strs 12 c a h3
  obtain ⟨i, rfl, rfl⟩ := Ax.get_int h5
  obtain ⟨sx, rfl, rfl⟩ := Ax.get_str h7
  unfold wordFind at h2
  rw [htk, Option.bind_some] at h2
  replace h2 : (if 0 ≤ i.v ∧ i.v ≤ 1000 ∧ sx.v.length < 4611686018427387904 then some [Ax.Dat.i (findV (us.map (·.v)) i.v (Sm.smallV sx.v)).1, Ax.Dat.i (findV (us.map (·.v)) i.v (Sm.smallV sx.v)).2] else none) = some r := h2
  split at h2
  · rename_i hi
    cases h2
    generalize hR : findV (us.map (·.v)) i.v (Sm.smallV sx.v) = R at *
    refine ⟨.tuple [.int .i64 (.sym R.1), .int .i64 (.sym R.2)], fun β K y q => q, fun S W vs hGR hSl hv => ?_⟩
    obtain ⟨x, y, z, rfl, hx, hy, hz⟩ := vr_three hv
    rw [hy.int_inv']
    obtain ⟨bz, rfl, ez⟩ := hz.str_inv'
    have hbz : bz = ⟨sx.v.toArray⟩ := by
      obtain ⟨⟨l⟩⟩ := bz
      have ez : l = sx.v := ez
      rw [ez]
    subst hbz
    cases hx with
    | agg hl hvv h1 =>
      rename_i arr
      have hsz : arr.size = 12 := by rw [hl]; simp [hul]
      have hat : ∀ j, j < 12 → arr[j]? = some (.string ⟨((us.map (·.v))[j]?.getD []).toArray⟩) := by
        intro j hj
        have hj' : j < arr.size := by omega
        have hu : us[j]? = some us[j] := List.getElem?_eq_getElem (by omega)
        obtain ⟨bb, e1, e2⟩ := (hvv j (.str us[j]) arr[j] (by rw [List.getElem?_map, hu]; rfl) (Array.getElem?_eq_getElem hj')).str_inv'
        rw [Array.getElem?_eq_getElem hj', e1]
        have hbb : bb = ⟨us[j].v.toArray⟩ := by
          obtain ⟨⟨l⟩⟩ := bb
          have e2 : l = us[j].v := e2
          rw [e2]
        rw [hbb, List.getElem?_map, hu]; rfl
      have harr : arr = #[.string ⟨((us.map (·.v))[0]?.getD []).toArray⟩, .string ⟨((us.map (·.v))[1]?.getD []).toArray⟩, .string ⟨((us.map (·.v))[2]?.getD []).toArray⟩, .string ⟨((us.map (·.v))[3]?.getD []).toArray⟩, .string ⟨((us.map (·.v))[4]?.getD []).toArray⟩, .string ⟨((us.map (·.v))[5]?.getD []).toArray⟩, .string ⟨((us.map (·.v))[6]?.getD []).toArray⟩, .string ⟨((us.map (·.v))[7]?.getD []).toArray⟩, .string ⟨((us.map (·.v))[8]?.getD []).toArray⟩, .string ⟨((us.map (·.v))[9]?.getD []).toArray⟩, .string ⟨((us.map (·.v))[10]?.getD []).toArray⟩, .string ⟨((us.map (·.v))[11]?.getD []).toArray⟩] := by
        apply Array.ext_getElem?
        intro j
        by_cases hj : j < 12
        · rw [hat j hj]
          have h : j = 0 ∨ j = 1 ∨ j = 2 ∨ j = 3 ∨ j = 4 ∨ j = 5 ∨ j = 6 ∨ j = 7 ∨ j = 8 ∨ j = 9 ∨ j = 10 ∨ j = 11 := by omega
          rcases h with rfl | rfl | rfl | rfl | rfl | rfl | rfl | rfl | rfl | rfl | rfl | rfl <;> rfl
        · rw [Array.getElem?_eq_none (by omega), Array.getElem?_eq_none (by simp; omega)]
      rw [harr]
      have key := callsIn_wide.1 (wf_find 3 (Nat.le_refl _) (us.map (·.v)) (by simp [hul]) (fun j => (us.map (·.v))[j]?.getD []) (fun _ _ => rfl) i.v hi.1 hi.2.1 sx.v hi.2.2 W)
      refine key.mono ?_
      rintro e W' ⟨rfl, hbl⟩
      rw [hR]
      refine ⟨_, rfl, hbl, .tuple (vs := #[_, _]) rfl fun j x v p q => ?_⟩
      match j with
      | 0 => simp at p q; subst p; subst q; exact .int rfl
      | 1 => simp at p q; subst p; subst q; exact .int rfl
      | j + 2 => simp at p
  · cases h2
end Go.Proofs.YtdpednaafficmaaDoor
