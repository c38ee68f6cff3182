/-
  checked.Sum: a sum of a list, if it does not overflow anywhere.
-/
import Derived.Test.YtkjlobjnboljbaaAxT
import Derived.Test.YtkjlobjnboljbaaAx36
import Derived.RangeFuncNested
import Derived.RangeFuncFrom
import Derived.RangeFuncBound
import Derived.RangeFuncCalls
import Derived.RangeFuncLeaves
import Derived.Shelf.Abstract
import Derived.Shelf.RegionOpen
import Derived.WalkKit
import Derived.WalkSpells
import Derived.WalkLawsBesides
import Derived.IntWalk
import Derived.Lib.Hide
import Derived.OwnWalkIn
import Derived.TacticsInMore
import Derived.LoopNIn
import Derived.LoopIn
namespace Go.Proofs.Ytkjlobjnboljbaa
open Go.RowKit Go.Shelf
set_option linter.unusedVariables false
set_option linter.unusedSimpArgs false

def In6 (x : Int) : Prop := -9223372036854775808 ≤ x ∧ x ≤ 9223372036854775807
instance (x : Int) : Decidable (In6 x) := by unfold In6; infer_instance
/-- A sum that fits; 0 and false else. -/
def addV (a b : Int) : Int := if In6 (a + b) then a + b else 0
def addF (a b : Int) : Bool := decide (In6 (a + b))
theorem cs_wrap_hi {x : Int} (h : 9223372036854775807 < x) (h2 : x ≤ 18446744073709551615) : ∃ s, wrap64 x = s ∧ s + 18446744073709551616 = x := ⟨_, rfl, by unfold wrap64; omega⟩
theorem cs_wrap_lo {x : Int} (h : x < -9223372036854775808) (h2 : -18446744073709551616 ≤ x) : ∃ s, wrap64 x = s ∧ s = x + 18446744073709551616 := ⟨_, rfl, by unfold wrap64; omega⟩

set_option maxHeartbeats 400000 in
theorem cs_add_ok (a b : Int) (w : World) (a1 : -9223372036854775808 ≤ a) (a2 : a ≤ 9223372036854775807) (b1 : -9223372036854775808 ≤ b) (b2 : b ≤ 9223372036854775807) (h1 : -9223372036854775808 ≤ a + b) (h2 : a + b ≤ 9223372036854775807) :
    Calls Try.prog 15 #[.int .i64 a, .int .i64 b] w fun e w' => e = .returned (.tuple #[.int .i64 (a + b), .bool true]) ∧ w' = w := by
  by_cases hb : b < 0
  · have q1 : decide (a + b < a) = true := by simp; omega
    have q2 : decide (b < 0) = true := by simp; omega
    go_enter Try.func15, Try.ntmps15
    go_wp2
    go_ret2
    exact ⟨rfl, rfl⟩
  · have q1 : decide (a + b < a) = false := by simp; omega
    have q2 : decide (b < 0) = false := by simp; omega
    have hb' : 0 ≤ b := by omega
    clear hb
    go_enter Try.func15, Try.ntmps15
    go_wp2
    go_ret2
    exact ⟨rfl, rfl⟩
set_option maxHeartbeats 400000 in
theorem cs_add_no (a b : Int) (w : World) (a1 : -9223372036854775808 ≤ a) (a2 : a ≤ 9223372036854775807) (b1 : -9223372036854775808 ≤ b) (b2 : b ≤ 9223372036854775807) (h : ¬ (-9223372036854775808 ≤ a + b ∧ a + b ≤ 9223372036854775807)) :
    Calls Try.prog 15 #[.int .i64 a, .int .i64 b] w fun e w' => e = .returned (.tuple #[.int .i64 0, .bool false]) ∧ w' = w := by
  by_cases hh : 9223372036854775807 < a + b
  · obtain ⟨s, hs, hs2⟩ := cs_wrap_hi hh (by omega)
    have q1 : decide (wrap64 (a + b) < a) = true := by rw [hs]; simp; omega
    have q2 : decide (b < 0) = false := by simp; omega
    clear hs2 h hs
    go_enter Try.func15, Try.ntmps15
    go_wp2
    go_ret2
    exact ⟨rfl, rfl⟩
  · obtain ⟨s, hs, hs2⟩ := cs_wrap_lo (show a + b < -9223372036854775808 by omega) (by omega)
    have q1 : decide (wrap64 (a + b) < a) = false := by rw [hs]; simp; omega
    have q2 : decide (b < 0) = true := by simp; omega
    clear hs2 h hh hs
    go_enter Try.func15, Try.ntmps15
    go_wp2
    go_ret2
    exact ⟨rfl, rfl⟩
theorem cs_add (a b : Int) (w : World) (ha : In6 a) (hb : In6 b) :
    Calls Try.prog 15 #[.int .i64 a, .int .i64 b] w fun e w' => e = .returned (.tuple #[.int .i64 (addV a b), .bool (addF a b)]) ∧ w' = w := by
  unfold addV addF
  by_cases h : In6 (a + b)
  · rw [if_pos h, decide_eq_true h]; exact cs_add_ok a b w ha.1 ha.2 hb.1 hb.2 h.1 h.2
  · rw [if_neg h, decide_eq_false h]; exact cs_add_no a b w ha.1 ha.2 hb.1 hb.2 h

/-- The sums of the first numbers, up to the first one that does not fit. -/
def sums : Int → List Int → List (Int × Bool)
  | _, [] => []
  | s, z :: zs => if In6 (s + z) then (s + z, true) :: sums (s + z) zs else [(0, false)]
theorem sums_in (s z : Int) (zs : List Int) (h : In6 (s + z)) : sums s (z :: zs) = (s + z, true) :: sums (s + z) zs := by
  conv => lhs; unfold sums
  exact if_pos h
theorem sums_out (s z : Int) (zs : List Int) (h : ¬ In6 (s + z)) : sums s (z :: zs) = [(0, false)] := by
  conv => lhs; unfold sums
  exact if_neg h
def sumR : Int → List Int → Int × Bool
  | s, [] => (s, true)
  | s, z :: zs => if In6 (s + z) then sumR (s + z) zs else (0, false)
attribute [local go_sem] Oper.semAt_some

set_option maxRecDepth 100000 in
set_option maxHeartbeats 2000000 in
theorem cs_first_in (n : Nat) (hn : 1 ≤ n) (l Bs n₀ b off cap : Nat) (zs : List Int) (hz : ∀ z ∈ zs, In6 z) (hreach : zs.length * 8 ≤ 140737488351232) (hb : b < n₀) (J Jx : List (Int × Bool) → World → Prop)
    (hY : ∀ pre x W, J pre W → pre.length < zs.length → YieldAt Fence.wide (n - 1) Try.prog l #[.int .i64 x.1, .bool x.2] W fun e W' =>
      (e = .returned (.bool true) ∧ J (pre ++ [x]) W' ∧ Below n₀ W W') ∨ (e = .returned (.bool false) ∧ Jx (pre ++ [x]) W'))
    (W : World) (hBs : W.cell? ⟨Bs, 0, none⟩ = some (.slice (some ⟨b, off, none⟩) zs.length cap)) (hc : ∀ j, j < zs.length → W.cell? ⟨b, off + j, none⟩ = some (.int .i64 (zs[j]?.getD 0))) (h0 : J [] W) :
    CallsIn Fence.wide n Try.prog 64 #[.func (.yield l) #[] #[], .pointer (some ⟨Bs, 0, none⟩)] W fun e W' => (∃ v, e = .returned v) ∧
      ((∃ ys, ys = sums 0 zs ∧ J ys W') ∨ (∃ pre, pre <+: sums 0 zs ∧ Jx pre W')) := by
  refine callsIn_of_wp Try.func64 rfl trivial ?_ rfl
  simp only [Try.ntmps64, List.size_toArray, List.length_cons, List.length_nil, Nat.reduceAdd, Nat.reduceSub, Array.replicate_succ, Array.replicate_zero, List.push_toArray, List.append_toArray, List.nil_append, List.cons_append]
  gi_wp2
  gi_loopw [3, 9] (fun s i wr => ∃ (k : Nat) (pre : List (Int × Bool)) (v : Int), k ≤ zs.length ∧ i = .int .i64 k ∧ s = .int .i64 v ∧ In6 v ∧ pre.length = k ∧ sums 0 zs = pre ++ sums v (zs.drop k) ∧ J pre wr ∧ Below n₀ W wr)
    (fun s i _ => zs.length - (intOf i).toNat)
  case atStart => exact ⟨0, [], 0, Nat.zero_le _, rfl, rfl, by unfold In6; omega, rfl, rfl, h0, Below.refl _ _⟩
  case round =>
    obtain ⟨k, pre, v, hk, rfl, rfl, hv, hpl, hsum, hJs, hnx⟩ := hrel
    have hcx : k < zs.length → wr.cell? ⟨b, off + k, none⟩ = some (.int .i64 (zs[k]?.getD 0)) := fun h => (hnx.cell (p := ⟨b, off + k, none⟩) hb).trans (hc k h)
    by_cases hlt : k < zs.length
    · have hzk : In6 (zs[k]?.getD 0) := by rw [List.getElem?_eq_getElem hlt]; exact hz _ (List.getElem_mem _)
      have hdr : zs.drop k = (zs[k]?.getD 0) :: zs.drop (k + 1) := by rw [List.getElem?_eq_getElem hlt]; exact List.drop_eq_getElem_cons hlt
      rw [hdr] at hsum
      generalize hx : zs[k]?.getD 0 = x at *
      have hcx' := hcx hlt
      by_cases hin : In6 (v + x)
      · have ea : addV v x = v + x := if_pos hin
        have ef : addF v x = true := decide_eq_true hin
        rw [sums_in v x _ hin] at hsum
        obtain ⟨fn, tmps, assign, body, hy, hR⟩ := hY pre (v + x, true) wr hJs (by omega)
        dsimp only at hy
        gi_wp2_with (refine ⟨trivial, ?_⟩; gi_at_call 15; refine (callsIn_wide.2 (cs_add v x _ hv hzk)).mono ?_; rintro e w' ⟨rfl, rfl⟩; rw [ea, ef])
        refine hR.mono ?_
        rintro e W3 (⟨rfl, hJ3, hk3⟩ | ⟨rfl, hJx3⟩)
        · gi_wp2
          go_roundw
          case rel => exact ⟨k + 1, pre ++ [(v + x, true)], v + x, by omega, by simp, rfl, hin, by simp [hpl], by rw [hsum]; simp, hJ3, hnx.trans hk3⟩
          case measure => simp [intOf]; omega
        · gi_wp2
          refine bodyPost_ret (results_none rfl _ _ _) rfl ?_
          exact ⟨⟨_, rfl⟩, .inr ⟨_, by rw [hsum]; exact ⟨sums (v + x) (zs.drop (k + 1)), by simp⟩, hJx3⟩⟩
      · have ea : addV v x = 0 := if_neg hin
        have ef : addF v x = false := decide_eq_false hin
        rw [sums_out v x _ hin] at hsum
        obtain ⟨fn, tmps, assign, body, hy, hR⟩ := hY pre (0, false) wr hJs (by omega)
        dsimp only at hy
        gi_wp2_with (refine ⟨trivial, ?_⟩; gi_at_call 15; refine (callsIn_wide.2 (cs_add v x _ hv hzk)).mono ?_; rintro e w' ⟨rfl, rfl⟩; rw [ea, ef])
        refine hR.mono ?_
        rintro e W3 (⟨rfl, hJ3, hk3⟩ | ⟨rfl, hJx3⟩)
        · gi_wp2
          refine bodyPost_ret (results_none rfl _ _ _) rfl ?_
          exact ⟨⟨_, rfl⟩, .inl ⟨_, rfl, by rw [hsum]; exact hJ3⟩⟩
        · gi_wp2
          refine bodyPost_ret (results_none rfl _ _ _) rfl ?_
          exact ⟨⟨_, rfl⟩, .inr ⟨_, by rw [hsum]; exact ⟨[], by simp⟩, hJx3⟩⟩
    · obtain rfl : k = zs.length := by omega
      gi_wp2
      go_end0
      rw [List.drop_length] at hsum
      exact ⟨⟨_, rfl⟩, .inl ⟨_, rfl, by rw [hsum]; simpa [sums] using hJs⟩⟩

set_option maxRecDepth 100000 in
set_option maxHeartbeats 1000000 in
theorem cs_first_nil (n l Bs : Nat) (a : Option Addr) (c : Nat) (J : List (Int × Bool) → World → Prop) (W : World) (hBs : W.cell? ⟨Bs, 0, none⟩ = some (.slice a 0 c)) (h0 : J [] W) :
    CallsIn Fence.wide n Try.prog 64 #[.func (.yield l) #[] #[], .pointer (some ⟨Bs, 0, none⟩)] W fun e W' => (∃ v, e = .returned v) ∧ J [] W' := by
  refine callsIn_of_wp Try.func64 rfl trivial ?_ rfl
  simp only [Try.ntmps64, List.size_toArray, List.length_cons, List.length_nil, Nat.reduceAdd, Nat.reduceSub, Array.replicate_succ, Array.replicate_zero, List.push_toArray, List.append_toArray, List.nil_append, List.cons_append]
  gi_wp2
  gi_loopw [3, 9] (fun s i wr => i = .int .i64 0 ∧ J [] wr) (fun _ _ _ => 0)
  case atStart => exact ⟨rfl, h0⟩
  case round =>
    obtain ⟨rfl, hJs⟩ := hrel
    gi_wp2
    go_end0
    exact ⟨⟨_, rfl⟩, hJs⟩

set_option maxHeartbeats 1000000 in
theorem cs_maker (n : Nat) (a : Option Addr) (len cap : Nat) (w : World) :
    CallsIn Fence.wide n Try.prog 47 #[.slice a len cap] w fun e w' => e = .returned (.func (.func 64) #[] #[.pointer (some ⟨w.heap.size, 0, none⟩)]) ∧ w' = w.alloc (.cells #[.slice a len cap] 29) := by
  refine callsIn_of_wp Try.func47 rfl trivial ?_ rfl
  simp only [Try.ntmps47, List.size_toArray, List.length_cons, List.length_nil, Nat.reduceAdd, Nat.reduceSub, Array.replicate_succ, Array.replicate_zero, List.push_toArray, List.append_toArray, List.nil_append, List.cons_append]
  gi_wp2
  go_ret
  exact ⟨rfl, rfl⟩

/-- The slice holds the numbers zs, below n₀; or there are none. -/
def CsInts (n₀ : Nat) (W : World) (a : Option Addr) (zs : List Int) : Prop := zs = [] ∨ ∃ b off, a = some ⟨b, off, none⟩ ∧ b < n₀ ∧ ∀ j, j < zs.length → W.cell? ⟨b, off + j, none⟩ = some (.int .i64 (zs[j]?.getD 0))
theorem CsInts.below {n₀ : Nat} {A B : World} (h : Below n₀ A B) {a : Option Addr} {zs : List Int} : CsInts n₀ A a zs → CsInts n₀ B a zs
  | .inl e => .inl e
  | .inr ⟨b, off, e, hb, hc⟩ => .inr ⟨b, off, e, hb, fun j hj => (h.cell (p := ⟨b, off + j, none⟩) hb).trans (hc j hj)⟩

theorem cs_stops (n : Nat) (hn : 1 ≤ n) (Bs n₀ : Nat) (a : Option Addr) (c : Nat) (zs : List Int) (hz : ∀ z ∈ zs, In6 z) (hreach : zs.length * 8 ≤ 140737488351232) (w : World) (hBs : Bs < w.heap.size) (hn₀ : n₀ ≤ w.heap.size)
    (hc : w.cell? ⟨Bs, 0, none⟩ = some (.slice a zs.length c)) (hI : CsInts n₀ w a zs) :
    SeqStopsK Fence.wide n Try.prog 64 #[.pointer (some ⟨Bs, 0, none⟩)] (fun x : Int × Bool => #[Value.int .i64 x.1, .bool x.2]) (Below n₀) (fun ys => ys = sums 0 zs) (fun pre => pre <+: sums 0 zs) zs.length w := fun l J Jx W hW _ _ hY h0 => by
  have hc' := (hW.cell (p := ⟨Bs, 0, none⟩) hBs).trans hc
  rcases hI.below (hW.mono hn₀) with rfl | ⟨b, off, rfl, hb, hcs⟩
  · exact (cs_first_nil n l Bs a c J W hc' h0).mono fun e W' ⟨he, hj⟩ => ⟨he, .inl ⟨_, rfl, hj⟩⟩
  · exact cs_first_in n hn l Bs n₀ b off c zs hz hreach hb J Jx hY W hc' hcs h0

theorem sum_all : ∀ (zs : List Int) (s : Int), (∀ y ∈ sums s zs, y.2 = true) → sumR s zs = (((sums s zs).getLast?.map (·.1)).getD s, true)
  | [], s, _ => rfl
  | z :: zs, s, h => by
    by_cases hin : In6 (s + z)
    · rw [sums_in _ _ _ hin] at h ⊢
      have := sum_all zs (s + z) (fun y hy => h y (List.mem_cons_of_mem _ hy))
      conv => lhs; unfold sumR
      rw [if_pos hin, this, List.getLast?_cons]
      cases (sums (s + z) zs).getLast? <;> rfl
    · rw [sums_out _ _ _ hin] at h
      cases h _ (List.mem_singleton_self _)
theorem sum_some : ∀ (zs : List Int) (s : Int), (∃ y ∈ sums s zs, y.2 = false) → sumR s zs = (0, false)
  | [], s, h => by obtain ⟨y, hy, _⟩ := h; cases hy
  | z :: zs, s, h => by
    by_cases hin : In6 (s + z)
    · rw [sums_in _ _ _ hin] at h
      conv => lhs; unfold sumR
      rw [if_pos hin]
      obtain ⟨y, hy, hf⟩ := h
      rcases List.mem_cons.1 hy with rfl | hy
      · cases hf
      · exact sum_some zs (s + z) ⟨y, hy, hf⟩
    · conv => lhs; unfold sumR
      rw [if_neg hin]
def lastS (pre : List (Int × Bool)) : Int := (pre.getLast?.map (·.1)).getD 0
theorem lastS_snoc (pre : List (Int × Bool)) (x : Int × Bool) : lastS (pre ++ [x]) = x.1 := by simp [lastS]

theorem cs_other {W : World} {a b : Addr} {v : Value} (h : a ≠ b) : (W.setCell a v).cell? b = W.cell? b := World.cell?_setCell_other W a b v h
theorem cs_cell {W : World} {B : Nat} {v : Value} {t : TypeId} (h : W.heap[B]? = some (.cells #[v] t (0, 0))) : W.cell? ⟨B, 0, none⟩ = some v ∧ W.frozen? ⟨B, 0, none⟩ = false := by
  constructor <;> simp [World.cell?, World.frozen?, h]
theorem cs_new (W : World) (v : Value) (t : TypeId) : (W.alloc (.cells #[v] t)).cell? ⟨W.heap.size, 0, none⟩ = some v ∧ (W.alloc (.cells #[v] t)).frozen? ⟨W.heap.size, 0, none⟩ = false :=
  cs_cell (World.alloc_heap_new W _)
theorem cs_alloc {W : World} {a : Addr} {v : Value} (o : Obj) (h : W.cell? a = some v) : (W.alloc o).cell? a = some v := cell_kept h (World.grownBy_alloc W o none) (fun r e => by cases e)
theorem cs_falloc {W : World} {a : Addr} {v : Value} (o : Obj) (h : W.cell? a = some v) (hf : W.frozen? a = false) : (W.alloc o).frozen? a = false := (frozen_kept h (World.grownBy_alloc W o none) (fun r e => by cases e)).trans hf

set_option maxRecDepth 100000 in
set_option maxHeartbeats 4000000 in
theorem cs_sum (n : Nat) (hn : 3 ≤ n) (a : Option Addr) (c : Nat) (zs : List Int) (hz : ∀ z ∈ zs, In6 z) (hreach : zs.length * 8 ≤ 140737488351232) (w : World) (hL : CsInts w.heap.size w a zs) :
    CallsIn Fence.wide n Try.prog 28 #[.slice a zs.length c] w fun e W' => e = .returned (.tuple #[.int .i64 (sumR 0 zs).1, .bool (sumR 0 zs).2]) ∧ Below w.heap.size w W' := by
  have h1 : 1 ≤ n := by omega
  refine callsIn_of_wp_marks Try.func28 rfl trivial ?_ rfl
  simp only [Try.ntmps28, List.size_toArray, List.length_cons, List.length_nil, Nat.reduceAdd, Nat.reduceSub, Array.replicate_succ, Array.replicate_zero, List.push_toArray, List.append_toArray, List.nil_append, List.cons_append]
  gi_wp2_with (refine ⟨trivial, ?_⟩; gi_at_call 47; refine (cs_maker (n - 1) _ _ _ _).mono ?_; rintro e w' ⟨rfl, rfl⟩)
  have c0 := cs_new w (.int .i64 0) 2
  have c1 := cs_new (w.alloc (.cells #[.int .i64 0] 2)) (.bool false) 4
  have c2 := cs_new ((w.alloc (.cells #[.int .i64 0] 2)).alloc (.cells #[.bool false] 4)) (.slice a zs.length c) 29
  simp only [World.size_alloc] at c1 c2
  have hB0 : Below w.heap.size w (((w.alloc (.cells #[.int .i64 0] 2)).alloc (.cells #[.bool false] 4)).alloc (.cells #[.slice a zs.length c] 29)) := (((Below.refl _ w).alloc (Nat.le_refl _) _).alloc (by simp) _).alloc (by simp; omega) _
  refine wpIn_rangeFunc_ownF rfl h1 (gf := 64) (lb := #[.pointer (some ⟨w.heap.size + 1 + 1, 0, none⟩)]) rfl trivial (enters_of Try.func64 (by kernel_rfl) rfl)
    (cs_stops (n - 1) (by omega) (w.heap.size + 1 + 1) w.heap.size a c zs hz hreach _ (by simp) (by simp; omega) c2.1 (hL.below hB0)) belowK_t (belowK_b (by simp; omega)) (Below.refl _ _) (fun _ => rfl)
    (fun pre W => ((∀ y ∈ pre, y.2 = true) ∧ W.cell? ⟨w.heap.size, 0, none⟩ = some (.int .i64 (lastS pre)) ∧ W.frozen? ⟨w.heap.size, 0, none⟩ = false ∧ W.cell? ⟨w.heap.size + 1, 0, none⟩ = some (.bool false) ∧ W.frozen? ⟨w.heap.size + 1, 0, none⟩ = false) ∧ Below w.heap.size w W)
    (fun c pre W => (c = .ret ∧ (∃ y ∈ pre, y.2 = false) ∧ W.cell? ⟨w.heap.size, 0, none⟩ = some (.int .i64 0) ∧ W.cell? ⟨w.heap.size + 1, 0, none⟩ = some (.bool false)) ∧ Below w.heap.size w W)
    (OwnFrom.and (Own.from (fun s A B row hs hg hr => ⟨hs.1, cell_kept hs.2.1 hg hr, (frozen_kept hs.2.1 hg hr).trans hs.2.2.1, cell_kept hs.2.2.2.1 hg hr, (frozen_kept hs.2.2.2.1 hg hr).trans hs.2.2.2.2⟩) _) (ownFrom_below (Nat.le_refl _) (by simp; omega)))
    (fun c => OwnFrom.and (Own.from (fun s A B row hs hg hr => ⟨hs.1, hs.2.1, cell_kept hs.2.2.1 hg hr, cell_kept hs.2.2.2 hg hr⟩) _) (ownFrom_below (Nat.le_refl _) (by simp; omega)))
    ⟨⟨by simp, cs_alloc _ (cs_alloc _ c0.1), cs_falloc _ (cs_alloc _ c0.1) (cs_falloc _ c0.1 c0.2), cs_alloc _ c1.1, cs_falloc _ c1.1 c1.2⟩, hB0⟩
    (fun x => { tmps := #[.slice a zs.length c, undef, .pointer (some ⟨w.heap.size, 0, none⟩), .pointer (some ⟨w.heap.size + 1, 0, none⟩), .int .i64 x.1, .bool x.2, .slice a zs.length c, .func (.func 64) #[] #[.pointer (some ⟨w.heap.size + 1 + 1, 0, none⟩)], .int .i64 x.1, .bool x.2, undef, undef, undef, undef], defers := [] }) ?assign ?body ?done ?stop
  case assign =>
    intro l x W K hK
    gi_wp2
    exact hK
  case body =>
    rintro l pre ⟨v, f⟩ W ⟨⟨hp, hct, hft, hcf, hff⟩, hB⟩ _
    cases f
    · gi_wp2
      have hne : (⟨w.heap.size + 1, 0, none⟩ : Addr) ≠ ⟨w.heap.size, 0, none⟩ := by simp
      have g0 := World.cell?_setCell_same' W ⟨w.heap.size, 0, none⟩ (.int .i64 0) (by rw [hct]; rfl)
      exact ⟨(KeepsOthers.setCell _ _ _).trans (KeepsOthers.setCell _ _ _), ⟨rfl, ⟨(v, false), List.mem_append.2 (.inr (by simp)), rfl⟩,
        by rw [cs_other (by simp)]; exact g0,
        World.cell?_setCell_same' _ _ _ (by rw [cs_other (by simp), hcf]; rfl)⟩, (hB.setCell (p := ⟨w.heap.size, 0, none⟩) (by simp) _).setCell (p := ⟨w.heap.size + 1, 0, none⟩) (by simp) _⟩
    · gi_wp2
      exact ⟨KeepsOthers.setCell _ _ _, (Below.refl w.heap.size W).setCell (p := ⟨w.heap.size, 0, none⟩) (Nat.le_refl _) _,
        ⟨fun y hy => (List.mem_append.1 hy).elim (hp y) (fun e => by simp at e; subst e; rfl),
         by rw [lastS_snoc]; exact World.cell?_setCell_same' _ _ _ (by rw [hct]; rfl), by rw [World.frozen?_setCell]; exact hft,
         by rw [cs_other (by simp)]; exact hcf, by rw [World.frozen?_setCell]; exact hff⟩, hB.setCell (p := ⟨w.heap.size, 0, none⟩) (by simp) _⟩
  case done =>
    rintro D ys W hD rfl ⟨⟨hne, hct, hft, hcf, hff⟩, hB⟩ hK
    gi_wp2
    have hK' := ((KeepsOthers.setCell W ⟨w.heap.size, 0, none⟩ (.int .i64 (lastS (sums 0 zs)))).trans (KeepsOthers.setCell _ ⟨w.heap.size + 1, 0, none⟩ (.bool true))).same D _ hK rfl
    have g0 : ((W.setCell ⟨w.heap.size, 0, none⟩ (.int .i64 (lastS (sums 0 zs)))).setCell ⟨w.heap.size + 1, 0, none⟩ (.bool true)).cell? ⟨w.heap.size, 0, none⟩ = some (.int .i64 (lastS (sums 0 zs))) := by
      rw [cs_other (by simp)]; exact World.cell?_setCell_same' _ _ _ (by rw [hct]; rfl)
    have g1 : ((W.setCell ⟨w.heap.size, 0, none⟩ (.int .i64 (lastS (sums 0 zs)))).setCell ⟨w.heap.size + 1, 0, none⟩ (.bool true)).cell? ⟨w.heap.size + 1, 0, none⟩ = some (.bool true) :=
      World.cell?_setCell_same' _ _ _ (by rw [cs_other (by simp), hcf]; rfl)
    have hBB := (hB.setCell (p := ⟨w.heap.size, 0, none⟩) (Nat.le_refl _) (.int .i64 (lastS (sums 0 zs)))).setCell (p := ⟨w.heap.size + 1, 0, none⟩) (by simp) (.bool true)
    generalize ((W.setCell ⟨w.heap.size, 0, none⟩ (.int .i64 (lastS (sums 0 zs)))).setCell ⟨w.heap.size + 1, 0, none⟩ (.bool true)) = W2 at *
    refine ⟨by simp, .inl ⟨_, _, rfl, run_takeDeferred hK', ?_⟩⟩
    have k0 := cell_kept g0 (grownBy_putObj' _ D (.deferred none)) (fun r e => by cases e; exact ⟨_, hK', rfl⟩)
    have k1 := cell_kept g1 (grownBy_putObj' _ D (.deferred none)) (fun r e => by cases e; exact ⟨_, hK', rfl⟩)
    refine ⟨.tuple #[.int .i64 (lastS (sums 0 zs)), .bool true], ?_, by rw [sum_all zs 0 hne]; rfl, hBB.trans (belowK_b (w := w) (Nat.le_refl _) _ D _ _ (by simp at hD; omega) hK' rfl rfl)⟩
    simp [results, Try.f28, go_sem, k0, k1]
  case stop =>
    rintro D c pre W hD hpre ⟨⟨rfl, hin, hct, hcf⟩, hB⟩ hK
    gi_wp2
    refine ⟨by simp, .inl ⟨_, _, rfl, run_takeDeferred hK, ?_⟩⟩
    have k0 := cell_kept hct (grownBy_putObj' _ D (.deferred none)) (fun r e => by cases e; exact ⟨_, hK, rfl⟩)
    have k1 := cell_kept hcf (grownBy_putObj' _ D (.deferred none)) (fun r e => by cases e; exact ⟨_, hK, rfl⟩)
    obtain ⟨y, hy, hyf⟩ := hin
    refine ⟨.tuple #[.int .i64 0, .bool false], ?_, by rw [sum_some zs 0 ⟨y, hpre.subset hy, hyf⟩], hB.trans (belowK_b (w := w) (Nat.le_refl _) W D _ _ (by simp at hD; omega) hK rfl rfl)⟩
    simp [results, Try.f28, go_sem, k0, k1]

/-! As a function of plain data. -/
def intsOf : List Ax.AV → Option (List Int)
  | [] => some []
  | .int .i64 s :: l => (intsOf l).map (s.v :: ·)
  | _ => none
theorem intsOf_cells {S : Nat → Prop} {W : World} : ∀ (cells : List Ax.AV) (vs : List Value) (xs : List Int), intsOf cells = some xs → vs.length = cells.length →
    (∀ (i : Nat) (x : Ax.AV) (v : Value), cells[i]? = some x → vs[i]? = some v → Ax.VR S W (fun _ => none) x v) → vs = xs.map (Value.int .i64)
  | [], [], xs, h, hl, hv => by cases h; rfl
  | [], _ :: _, xs, h, hl, hv => by cases hl
  | _ :: _, [], xs, h, hl, hv => by cases hl
  | c :: cells, v :: vs, xs, h, hl, hv => by
    unfold intsOf at h
    split at h
    · rename_i e; cases e
    · rename_i n l e
      cases e
      cases hb : intsOf cells with
      | none => rw [hb] at h; cases h
      | some s' =>
        rw [hb] at h
        cases h
        rw [intsOf_cells cells vs s' hb (by simpa using hl) (fun i x w p q => hv (i + 1) x w p q), (hv 0 _ _ rfl rfl).int_inv', List.map_cons]
    · cases h
def intsIn (zs : List Int) : Prop := ∀ z ∈ zs, In6 z
instance (zs : List Int) : Decidable (intsIn zs) := by unfold intsIn; infer_instance
noncomputable def checkedSum : List Ax.Dat → Option (List Ax.Dat) := fun ds =>
  Ax.onN ds fun n ds => Ax.onL ds fun l _ => Option.bind (intsOf l) fun zs => if zs.length = n ∧ n * 8 ≤ 140737488351232 ∧ intsIn zs then some [.i (sumR 0 zs).1, .b (sumR 0 zs).2] else none
theorem checkedSum_ok {G : Nat → Option (List Ax.AV)} : Ax.FnOk Try.prog G 28 ⟨[.seq], .tuple [.int .i64, .bool], checkedSum⟩ := by
  refine Ax.FnOk.of_calls (c := code28) Try.func28 (by kernel_rfl) (by kernel_rfl) fun xs ds r h1 h2 => ?_
  obtain ⟨v, vs, a, b, rfl, rfl, h3, h4⟩ := Ax.gets_cons h1
  obtain ⟨rfl, rfl⟩ := Ax.gets_nil h4
  obtain ⟨m, l, rfl, hv⟩ := Ax.get_seq h3
  replace h2 : (Option.bind (intsOf l) fun zs => if zs.length = m ∧ m * 8 ≤ 140737488351232 ∧ intsIn zs then some [Ax.Dat.i (sumR 0 zs).1, Ax.Dat.b (sumR 0 zs).2] else none) = some r := h2
  cases hs : intsOf l with
  | none => rw [hs] at h2; cases h2
  | some zs =>
    rw [hs, Option.bind_some] at h2
    split at h2
    · rename_i hl
      cases h2
      refine ⟨.tuple [.int .i64 (.sym (sumR 0 zs).1), .bool (sumR 0 zs).2], fun β K y q => q, fun S W vs hGR hSl hvs => ?_⟩
      obtain ⟨x, rfl, hx1⟩ := hvs.one
      have key : ∀ (a : Option Addr) (c : Nat), CsInts W.heap.size W a zs → Calls Try.prog 28 [Value.slice a zs.length c].toArray W fun e W' => ∃ v, e = .returned v ∧ Below W.heap.size W W' ∧ Ax.VR S W' (fun _ => none) (.tuple [.int .i64 (.sym (sumR 0 zs).1), .bool (sumR 0 zs).2]) v := by
        intro a c hI
        refine (callsIn_wide.1 (cs_sum 3 (Nat.le_refl _) a c zs hl.2.2 (by rw [hl.1]; exact hl.2.1) W hI)).mono ?_
        rintro e W' ⟨rfl, hbl⟩
        refine ⟨_, rfl, hbl, .tuple (vs := #[_, _]) rfl fun j x v p q => ?_⟩
        match j with
        | 0 => simp at p q; subst p; subst q; exact .int rfl
        | 1 => simp at p q; subst p; subst q; exact .bool
        | j + 2 => simp at p
      rcases (hv _ _ _ hx1).seq_inv with ⟨rfl, _, rfl⟩ | ⟨a, rfl, _, rfl⟩ | h
      · cases hs
        exact key none 0 (.inl rfl)
      · cases hs
        exact key _ 0 (.inl rfl)
      · cases h with
        | list hm hn hsp hS hlen hcc hvv h1 =>
          rename_i a c m' vs
          have h7 := intsOf_cells l vs zs hs hlen hvv
          subst h7
          have hm' : m = m' := hm
          obtain ⟨bk, o, sp⟩ := a
          cases hsp
          have : m' = zs.length := by rw [← hm', ← hl.1]
          subst this
          refine key _ _ (.inr ⟨bk, o, rfl, hSl _ hS, fun j hj => ?_⟩)
          have := hcc j (.int .i64 zs[j]) (by simp [hj])
          rw [List.getElem?_eq_getElem hj]
          exact this
    · cases h2
end Go.Proofs.Ytkjlobjnboljbaa
