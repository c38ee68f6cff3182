/-
  clock.find: which base a letter says.
-/
import Derived.Test.YtnfgmffcnmifkaaDoorAxT
import Derived.Test.YtnfgmffcnmifkaaDoorAx36
import Derived.WalkKit
import Derived.WalkSpells
import Derived.WalkLawsBesides
import Derived.Outline
import Derived.OpenShut
import Derived.IntWalk
import Derived.LoopN
import Derived.Lib.Hide
import Derived.Lib.OthersKept
import Derived.Laws.RangeString
namespace Go.Proofs.YtnfgmffcnmifkaaDoor
set_option linter.unusedVariables false
set_option linter.unusedSimpArgs false
open Go.RowKit

theorem ix0 (w : World) : (Instr.index 51 (Value.agg #[Value.string { data := #[119] }, Value.string { data := #[115] }, Value.string { data := #[103, 122, 117] }]) (Value.int IntKind.i64 0)).run Tryd.prog w = .ok (.string ⟨#[119]⟩) w := by kernel_rfl
theorem ix1 (w : World) : (Instr.index 51 (Value.agg #[Value.string { data := #[119] }, Value.string { data := #[115] }, Value.string { data := #[103, 122, 117] }]) (Value.int IntKind.i64 1)).run Tryd.prog w = .ok (.string ⟨#[115]⟩) w := by kernel_rfl
theorem ix2 (w : World) : (Instr.index 51 (Value.agg #[Value.string { data := #[119] }, Value.string { data := #[115] }, Value.string { data := #[103, 122, 117] }]) (Value.int IntKind.i64 2)).run Tryd.prog w = .ok (.string ⟨#[103, 122, 117]⟩) w := by kernel_rfl
theorem nx0 (P : Program) (w : World) (ty : TypeId) : (Instr.next (.pointer (some ⟨w.heap.size, 0, none⟩)) true ty).run P (w.iter ⟨#[119]⟩ 0) = .ok (.tuple #[.bool true, .int .i64 0, .int .i32 119]) (w.iter ⟨#[119]⟩ 1) := run_next_ascii w ⟨#[119]⟩ 0 ty (by decide) (by decide)
theorem en0 (P : Program) (w : World) (ty : TypeId) : (Instr.next (.pointer (some ⟨w.heap.size, 0, none⟩)) true ty).run P (w.iter ⟨#[119]⟩ 1) = .ok (.tuple #[.bool false]) (w.iter ⟨#[119]⟩ 1) := run_next_end w ⟨#[119]⟩ 1 ty (by decide)
theorem nx1 (P : Program) (w : World) (ty : TypeId) : (Instr.next (.pointer (some ⟨w.heap.size, 0, none⟩)) true ty).run P (w.iter ⟨#[115]⟩ 0) = .ok (.tuple #[.bool true, .int .i64 0, .int .i32 115]) (w.iter ⟨#[115]⟩ 1) := run_next_ascii w ⟨#[115]⟩ 0 ty (by decide) (by decide)
theorem en1 (P : Program) (w : World) (ty : TypeId) : (Instr.next (.pointer (some ⟨w.heap.size, 0, none⟩)) true ty).run P (w.iter ⟨#[115]⟩ 1) = .ok (.tuple #[.bool false]) (w.iter ⟨#[115]⟩ 1) := run_next_end w ⟨#[115]⟩ 1 ty (by decide)
theorem nx2 (P : Program) (w : World) (ty : TypeId) : (Instr.next (.pointer (some ⟨w.heap.size, 0, none⟩)) true ty).run P (w.iter ⟨#[103, 122, 117]⟩ 0) = .ok (.tuple #[.bool true, .int .i64 0, .int .i32 103]) (w.iter ⟨#[103, 122, 117]⟩ 1) := run_next_ascii w ⟨#[103, 122, 117]⟩ 0 ty (by decide) (by decide)
theorem nx3 (P : Program) (w : World) (ty : TypeId) : (Instr.next (.pointer (some ⟨w.heap.size, 0, none⟩)) true ty).run P (w.iter ⟨#[103, 122, 117]⟩ 1) = .ok (.tuple #[.bool true, .int .i64 1, .int .i32 122]) (w.iter ⟨#[103, 122, 117]⟩ 2) := run_next_ascii w ⟨#[103, 122, 117]⟩ 1 ty (by decide) (by decide)
theorem nx4 (P : Program) (w : World) (ty : TypeId) : (Instr.next (.pointer (some ⟨w.heap.size, 0, none⟩)) true ty).run P (w.iter ⟨#[103, 122, 117]⟩ 2) = .ok (.tuple #[.bool true, .int .i64 2, .int .i32 117]) (w.iter ⟨#[103, 122, 117]⟩ 3) := run_next_ascii w ⟨#[103, 122, 117]⟩ 2 ty (by decide) (by decide)
theorem en2 (P : Program) (w : World) (ty : TypeId) : (Instr.next (.pointer (some ⟨w.heap.size, 0, none⟩)) true ty).run P (w.iter ⟨#[103, 122, 117]⟩ 3) = .ok (.tuple #[.bool false]) (w.iter ⟨#[103, 122, 117]⟩ 3) := run_next_end w ⟨#[103, 122, 117]⟩ 3 ty (by decide)
theorem below_iter {n : Nat} {w w' : World} (h : RowKit.Below n w w') (hn : n ≤ w'.heap.size) (s : ByteArray) (p : Nat) : RowKit.Below n w (w'.iter s p) := h.alloc hn _
theorem iter_size (w : World) (s : ByteArray) (p : Nat) : (w.iter s p).heap.size = w.heap.size + 1 := by simp [World.iter]
attribute [local go_sem] nx0 nx1 nx2 nx3 nx4 en0 en1 en2 ix0 ix1 ix2
set_option maxRecDepth 100000 in
set_option maxHeartbeats 2000000 in
theorem find_no {b : Int} (hb0 : 0 ≤ b) (hb1 : b ≤ 255) (n1 : b ≠ 119) (n2 : b ≠ 115) (n3 : b ≠ 103) (n4 : b ≠ 122) (n5 : b ≠ 117) (w : World) (h0 : w.cell? ⟨0, 0, none⟩ = some (.string ⟨#[119]⟩)) (h1 : w.cell? ⟨0, 1, none⟩ = some (.string ⟨#[115]⟩)) (h2 : w.cell? ⟨0, 2, none⟩ = some (.string ⟨#[103, 122, 117]⟩)) :
    Calls Tryd.prog 21 #[.int .u8 b] w fun e w' => e = .returned (.tuple #[.int .i64 0, .bool false]) ∧ RowKit.Below w.heap.size w w' := by
  go_enter Tryd.func21, Tryd.ntmps21
  go_wp2
  refine wp_loop_rounds 4 ?_
  rw [rounds_succ]
  go_wp2
  refine wp_loop_rounds 2 ?_
  rw [rounds_succ]
  go_wp2
  rw [rounds_succ]
  go_wp2
  rw [rounds_succ]
  go_wp2
  refine wp_loop_rounds 2 ?_
  rw [rounds_succ]
  go_wp2
  rw [rounds_succ]
  go_wp2
  rw [rounds_succ]
  go_wp2
  refine wp_loop_rounds 4 ?_
  rw [rounds_succ]
  go_wp2
  rw [rounds_succ]
  go_wp2
  rw [rounds_succ]
  go_wp2
  rw [rounds_succ]
  go_wp2
  rw [rounds_succ]
  go_wp2
  go_ret2
  exact ⟨rfl, below_iter (below_iter (below_iter (RowKit.Below.refl _ w) (Nat.le_refl _) _ _) (by rw [iter_size]; omega) _ _) (by rw [iter_size, iter_size]; omega) _ _⟩
set_option maxRecDepth 100000 in
set_option maxHeartbeats 2000000 in
theorem find_w (w : World) (h0 : w.cell? ⟨0, 0, none⟩ = some (.string ⟨#[119]⟩)) (h1 : w.cell? ⟨0, 1, none⟩ = some (.string ⟨#[115]⟩)) (h2 : w.cell? ⟨0, 2, none⟩ = some (.string ⟨#[103, 122, 117]⟩)) :
    Calls Tryd.prog 21 #[.int .u8 119] w fun e w' => e = .returned (.tuple #[.int .i64 0, .bool true]) ∧ RowKit.Below w.heap.size w w' := by
  go_enter Tryd.func21, Tryd.ntmps21
  go_wp2
  refine wp_loop_rounds 4 ?_
  rw [rounds_succ]
  go_wp2
  refine wp_loop_rounds 2 ?_
  rw [rounds_succ]
  go_wp2
  go_ret2
  exact ⟨rfl, below_iter (RowKit.Below.refl _ w) (Nat.le_refl _) _ _⟩
set_option maxRecDepth 100000 in
set_option maxHeartbeats 2000000 in
theorem find_s (w : World) (h0 : w.cell? ⟨0, 0, none⟩ = some (.string ⟨#[119]⟩)) (h1 : w.cell? ⟨0, 1, none⟩ = some (.string ⟨#[115]⟩)) (h2 : w.cell? ⟨0, 2, none⟩ = some (.string ⟨#[103, 122, 117]⟩)) :
    Calls Tryd.prog 21 #[.int .u8 115] w fun e w' => e = .returned (.tuple #[.int .i64 1, .bool true]) ∧ RowKit.Below w.heap.size w w' := by
  go_enter Tryd.func21, Tryd.ntmps21
  go_wp2
  refine wp_loop_rounds 4 ?_
  rw [rounds_succ]
  go_wp2
  refine wp_loop_rounds 2 ?_
  rw [rounds_succ]
  go_wp2
  rw [rounds_succ]
  go_wp2
  rw [rounds_succ]
  go_wp2
  refine wp_loop_rounds 2 ?_
  rw [rounds_succ]
  go_wp2
  go_ret2
  exact ⟨rfl, below_iter (below_iter (RowKit.Below.refl _ w) (Nat.le_refl _) _ _) (by rw [iter_size]; omega) _ _⟩
set_option maxRecDepth 100000 in
set_option maxHeartbeats 2000000 in
theorem find_g (w : World) (h0 : w.cell? ⟨0, 0, none⟩ = some (.string ⟨#[119]⟩)) (h1 : w.cell? ⟨0, 1, none⟩ = some (.string ⟨#[115]⟩)) (h2 : w.cell? ⟨0, 2, none⟩ = some (.string ⟨#[103, 122, 117]⟩)) :
    Calls Tryd.prog 21 #[.int .u8 103] w fun e w' => e = .returned (.tuple #[.int .i64 2, .bool true]) ∧ RowKit.Below w.heap.size w w' := by
  go_enter Tryd.func21, Tryd.ntmps21
  go_wp2
  refine wp_loop_rounds 4 ?_
  rw [rounds_succ]
  go_wp2
  refine wp_loop_rounds 2 ?_
  rw [rounds_succ]
  go_wp2
  rw [rounds_succ]
  go_wp2
  rw [rounds_succ]
  go_wp2
  refine wp_loop_rounds 2 ?_
  rw [rounds_succ]
  go_wp2
  rw [rounds_succ]
  go_wp2
  rw [rounds_succ]
  go_wp2
  refine wp_loop_rounds 4 ?_
  rw [rounds_succ]
  go_wp2
  go_ret2
  exact ⟨rfl, below_iter (below_iter (below_iter (RowKit.Below.refl _ w) (Nat.le_refl _) _ _) (by rw [iter_size]; omega) _ _) (by rw [iter_size, iter_size]; omega) _ _⟩
set_option maxRecDepth 100000 in
set_option maxHeartbeats 2000000 in
theorem find_z (w : World) (h0 : w.cell? ⟨0, 0, none⟩ = some (.string ⟨#[119]⟩)) (h1 : w.cell? ⟨0, 1, none⟩ = some (.string ⟨#[115]⟩)) (h2 : w.cell? ⟨0, 2, none⟩ = some (.string ⟨#[103, 122, 117]⟩)) :
    Calls Tryd.prog 21 #[.int .u8 122] w fun e w' => e = .returned (.tuple #[.int .i64 2, .bool true]) ∧ RowKit.Below w.heap.size w w' := by
  go_enter Tryd.func21, Tryd.ntmps21
  go_wp2
  refine wp_loop_rounds 4 ?_
  rw [rounds_succ]
  go_wp2
  refine wp_loop_rounds 2 ?_
  rw [rounds_succ]
  go_wp2
  rw [rounds_succ]
  go_wp2
  rw [rounds_succ]
  go_wp2
  refine wp_loop_rounds 2 ?_
  rw [rounds_succ]
  go_wp2
  rw [rounds_succ]
  go_wp2
  rw [rounds_succ]
  go_wp2
  refine wp_loop_rounds 4 ?_
  rw [rounds_succ]
  go_wp2
  rw [rounds_succ]
  go_wp2
  go_ret2
  exact ⟨rfl, below_iter (below_iter (below_iter (RowKit.Below.refl _ w) (Nat.le_refl _) _ _) (by rw [iter_size]; omega) _ _) (by rw [iter_size, iter_size]; omega) _ _⟩
set_option maxRecDepth 100000 in
set_option maxHeartbeats 2000000 in
theorem find_u (w : World) (h0 : w.cell? ⟨0, 0, none⟩ = some (.string ⟨#[119]⟩)) (h1 : w.cell? ⟨0, 1, none⟩ = some (.string ⟨#[115]⟩)) (h2 : w.cell? ⟨0, 2, none⟩ = some (.string ⟨#[103, 122, 117]⟩)) :
    Calls Tryd.prog 21 #[.int .u8 117] w fun e w' => e = .returned (.tuple #[.int .i64 2, .bool true]) ∧ RowKit.Below w.heap.size w w' := by
  go_enter Tryd.func21, Tryd.ntmps21
  go_wp2
  refine wp_loop_rounds 4 ?_
  rw [rounds_succ]
  go_wp2
  refine wp_loop_rounds 2 ?_
  rw [rounds_succ]
  go_wp2
  rw [rounds_succ]
  go_wp2
  rw [rounds_succ]
  go_wp2
  refine wp_loop_rounds 2 ?_
  rw [rounds_succ]
  go_wp2
  rw [rounds_succ]
  go_wp2
  rw [rounds_succ]
  go_wp2
  refine wp_loop_rounds 4 ?_
  rw [rounds_succ]
  go_wp2
  rw [rounds_succ]
  go_wp2
  rw [rounds_succ]
  go_wp2
  go_ret2
  exact ⟨rfl, below_iter (below_iter (below_iter (RowKit.Below.refl _ w) (Nat.le_refl _) _ _) (by rw [iter_size]; omega) _ _) (by rw [iter_size, iter_size]; omega) _ _⟩
/-- Which base a letter says. -/
def letterBase (b : Int) : Int := if b = 119 then 0 else if b = 115 then 1 else if b = 103 then 2 else if b = 122 then 2 else if b = 117 then 2 else 0
def isLetter (b : Int) : Bool := decide (b = 119 ∨ b = 115 ∨ b = 103 ∨ b = 122 ∨ b = 117)
theorem find_calls {b : Int} (hb0 : 0 ≤ b) (hb1 : b ≤ 255) (w : World) (h0 : w.cell? ⟨0, 0, none⟩ = some (.string ⟨#[119]⟩)) (h1 : w.cell? ⟨0, 1, none⟩ = some (.string ⟨#[115]⟩)) (h2 : w.cell? ⟨0, 2, none⟩ = some (.string ⟨#[103, 122, 117]⟩)) :
    Calls Tryd.prog 21 #[.int .u8 b] w fun e w' => e = .returned (.tuple #[.int .i64 (letterBase b), .bool (isLetter b)]) ∧ RowKit.Below w.heap.size w w' := by
  by_cases n1 : b = 119
  · subst n1; exact find_w w h0 h1 h2
  by_cases n2 : b = 115
  · subst n2; exact find_s w h0 h1 h2
  by_cases n3 : b = 103
  · subst n3; exact find_g w h0 h1 h2
  by_cases n4 : b = 122
  · subst n4; exact find_z w h0 h1 h2
  by_cases n5 : b = 117
  · subst n5; exact find_u w h0 h1 h2
  have e1 : letterBase b = 0 := by unfold letterBase; rw [if_neg n1, if_neg n2, if_neg n3, if_neg n4, if_neg n5]
  have e2 : isLetter b = false := decide_eq_false (by omega)
  rw [e1, e2]
  exact find_no hb0 hb1 n1 n2 n3 n4 n5 w h0 h1 h2

/-- As a function of plain data. -/
noncomputable def clockFind : List Ax.Dat → Option (List Ax.Dat) := fun ds => Ax.onI ds fun b _ => if 0 ≤ b ∧ b ≤ 255 then some [.i (letterBase b), .b (isLetter b)] else none
theorem clockFind_ok {G : Nat → Option (List Ax.AV)} (hG : G 0 = some [.str (.lit [119]), .str (.lit [115]), .str (.lit [103, 122, 117])]) :
    Ax.FnOk Tryd.prog G 21 ⟨[.int .u8], .tuple [.int .i64, .bool], clockFind⟩ := by
  refine Ax.FnOk.of_calls (c := code21) Tryd.func21 (by kernel_rfl) (by kernel_rfl) fun xs ds r h1 h2 => ?_
  obtain ⟨v, vs, a, b, rfl, rfl, h3, h4⟩ := Ax.gets_cons h1
  obtain ⟨rfl, rfl⟩ := Ax.gets_nil h4
  obtain ⟨i, rfl, rfl⟩ := Ax.get_int h3
  have h2 : (if 0 ≤ i.v ∧ i.v ≤ 255 then some [Ax.Dat.i (letterBase i.v), Ax.Dat.b (isLetter i.v)] else none) = some r := h2
  split at h2
  · rename_i hi
    cases h2
    refine ⟨.tuple [.int .i64 (.sym (letterBase i.v)), .bool (isLetter i.v)], fun β K y q => q, fun S W vs hGR hs hv => ?_⟩
    obtain ⟨v, rfl, hv1⟩ := hv.one
    rw [hv1.int_inv']
    have key : ∀ (j : Nat) (s : List UInt8), ([.str (.lit [119]), .str (.lit [115]), .str (.lit [103, 122, 117])] : List Ax.AV)[j]? = some (.str (.lit s)) → W.cell? ⟨0, j, none⟩ = some (.string ⟨s.toArray⟩) := by
      intro j s hj
      obtain ⟨h1, cs, e, fr, hb, hsz⟩ := hGR _ _ hG
      cases h1 with | ref hsp hS ho hl hc hv h1 =>
      rename_i vs
      have hj' : j < vs.length := by rw [hl]; exact (List.getElem?_eq_some_iff.1 hj).1
      have hx : vs[j]? = some vs[j] := List.getElem?_eq_getElem _
      have h2 := hc j _ hx
      obtain ⟨b, e1, e2⟩ := (hv j _ _ hj hx).str_inv'
      rw [e1] at h2
      have h2 : W.cell? ⟨0, 0 - 0 + j, none⟩ = some (.string b) := h2
      rw [Nat.sub_self, Nat.zero_add] at h2
      rw [h2]
      congr 2
      obtain ⟨⟨l⟩⟩ := b
      have e2 : l = s := e2
      rw [e2]
    refine (find_calls hi.1 hi.2 W (key 0 _ rfl) (key 1 _ rfl) (key 2 _ rfl)).mono ?_
    rintro e W' ⟨rfl, hbl⟩
    refine ⟨_, rfl, hbl, .tuple (vs := #[_, _]) rfl fun j x v p q => ?_⟩
    match j with
    | 0 => simp at p q; subst p; subst q; exact .int rfl
    | 1 => simp at p q; subst p; subst q; exact .bool
    | j + 2 => simp at p
  · cases h2
end Go.Proofs.YtnfgmffcnmifkaaDoor
