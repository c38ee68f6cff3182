/-
  strings.SplitSeq with a separator of one byte: what the iterator hands over.
-/
import Derived.Test.YtgmmcmfnniaekaaDoorAxT
import Derived.Test.YtgmmcmfnniaekaaDoorShelf
import Derived.Test.YtgmmcmfnniaekaaDoorAx41
import Derived.Shelf.Abstract
import Derived.Shelf.RegionOpen
import Derived.WalkKit
import Derived.WalkSpells
import Derived.WalkLawsBesides
import Derived.IntWalk
import Derived.Lib.Hide
import Derived.Lib.IndexLaws
import Derived.OwnWalkIn
import Derived.TacticsInMore
import Derived.LoopNIn
import Derived.LoopIn
namespace Go.Proofs.YtgmmcmfnniaekaaDoor.Sp
open Go.RowKit Go.Shelf
open Go.Proofs.YtgmmcmfnniaekaaDoor
set_option linter.unusedVariables false
set_option linter.unusedSimpArgs false
attribute [local go_sem] Oper.semAt_some
/-- The pieces of a text between bytes. -/
def parts (c : UInt8) : List UInt8 → List (List UInt8)
  | [] => [[]]
  | x :: l => if x = c then [] :: parts c l else match parts c l with
    | [] => [[x]]
    | p :: ps => (x :: p) :: ps
theorem parts_ne (c : UInt8) : ∀ l, parts c l ≠ []
  | [] => by simp [parts]
  | x :: l => by
    unfold parts
    split
    · simp
    · split <;> simp
theorem parts_none {c : UInt8} : ∀ {s : List UInt8}, Lib.indexByte s c = -1 → parts c s = [s]
  | [], _ => rfl
  | x :: l, h => by
    unfold Lib.indexByte at h
    by_cases hx : x = c
    · subst hx; simp at h
    · have hb : (x == c) = false := by simpa using hx
      rw [hb] at h
      by_cases h2 : Lib.indexByte l c = -1
      · unfold parts
        rw [if_neg hx, parts_none h2]
      · have hb2 : (Lib.indexByte l c == -1) = false := by simpa using h2
        rw [hb2] at h
        have := Lib.indexByte_ge l c
        simp at h
        omega
theorem parts_some {c : UInt8} : ∀ {s : List UInt8} {i : Nat}, Lib.indexByte s c = i → i < s.length ∧ parts c s = s.take i :: parts c (s.drop (i + 1))
  | [], i, h => by unfold Lib.indexByte at h; omega
  | x :: l, i, h => by
    unfold Lib.indexByte at h
    by_cases hx : x = c
    · subst hx
      simp at h
      obtain rfl : i = 0 := by omega
      refine ⟨by simp, ?_⟩
      conv => lhs; unfold parts
      simp
    · have hb : (x == c) = false := by simpa using hx
      rw [hb] at h
      by_cases h2 : Lib.indexByte l c = -1
      · rw [h2] at h; simp at h <;> omega
      · have hb2 : (Lib.indexByte l c == -1) = false := by simpa using h2
        rw [hb2] at h
        have hg := Lib.indexByte_ge l c
        simp at h
        obtain ⟨j, rfl⟩ : ∃ j, i = j + 1 := ⟨i - 1, by omega⟩
        obtain ⟨h3, h4⟩ := parts_some (c := c) (s := l) (i := j) (by omega)
        refine ⟨by simp; omega, ?_⟩
        conv => lhs; unfold parts
        rw [if_neg hx, h4]
        simp
theorem parts_len (c : UInt8) : ∀ s, (parts c s).length ≤ s.length + 1
  | [] => by simp [parts]
  | x :: l => by
    have h := parts_len c l
    unfold parts
    split
    · simp; omega
    · split
      · simp
      · rename_i p ps e; rw [e] at h; simp at h ⊢; omega
/-- What the body of a loop must keep: the three boxes of the iterator. -/
def Keeps3 (Bp Bs Bv : Nat) (U V : World) : Prop := V.cell? ⟨Bp, 0, none⟩ = U.cell? ⟨Bp, 0, none⟩ ∧ (V.cell? ⟨Bs, 0, none⟩ = U.cell? ⟨Bs, 0, none⟩ ∧ V.frozen? ⟨Bs, 0, none⟩ = U.frozen? ⟨Bs, 0, none⟩) ∧ V.cell? ⟨Bv, 0, none⟩ = U.cell? ⟨Bv, 0, none⟩
theorem wc_other {W : World} {a b : Addr} {v : Value} (h : a ≠ b) : (W.setCell a v).cell? b = W.cell? b := World.cell?_setCell_other W a b v h
def left (W : World) (Bs : Nat) : Nat := match W.cell? ⟨Bs, 0, none⟩ with | some (.string b) => b.size | _ => 0
theorem left_eq {W : World} {Bs : Nat} {b : ByteArray} (h : W.cell? ⟨Bs, 0, none⟩ = some (.string b)) : left W Bs = b.size := by unfold left; rw [h]

theorem bx_take (s : List UInt8) (i : Nat) : (ByteArray.mk s.toArray).extract 0 i = ⟨(s.take i).toArray⟩ := by
  apply ByteArray.ext
  simp [ByteArray.data_extract]
theorem bx_drop (s : List UInt8) (i : Nat) : (ByteArray.mk s.toArray).extract i s.length = ⟨(s.drop i).toArray⟩ := by
  apply ByteArray.ext
  simp [ByteArray.data_extract]
  exact List.take_of_length_le (by simp)
set_option maxRecDepth 100000 in
set_option maxHeartbeats 2000000 in
theorem split_in (n : Nat) (hn : 1 ≤ n) (l Bp Bs Bv : Nat) (hps : Bp ≠ Bs) (hvs : Bv ≠ Bs) (c : UInt8) (s0 : List UInt8) (hlen : s0.length < 4611686018427387904) (J Jx : List (List UInt8) → World → Prop)
    (hJs : ∀ s U v, J s U → J s (U.setCell ⟨Bs, 0, none⟩ v))
    (hY : ∀ pre x W, J pre W → pre.length < s0.length + 1 → YieldAt Fence.wide (n - 1) Tryd.prog l #[.string ⟨x.toArray⟩] W fun e W' =>
      (e = .returned (.bool true) ∧ J (pre ++ [x]) W' ∧ Keeps3 Bp Bs Bv W W') ∨ (e = .returned (.bool false) ∧ Jx (pre ++ [x]) W'))
    (W : World) (h1 : W.cell? ⟨Bp, 0, none⟩ = some (.string ⟨#[c]⟩)) (h2 : W.cell? ⟨Bs, 0, none⟩ = some (.string ⟨s0.toArray⟩)) (hf : W.frozen? ⟨Bs, 0, none⟩ = false) (h3 : W.cell? ⟨Bv, 0, none⟩ = some (.int .i64 0)) (h0 : J [] W) :
    CallsIn Fence.wide n Tryd.prog 71 #[.func (.yield l) #[] #[], .pointer (some ⟨Bp, 0, none⟩), .pointer (some ⟨Bs, 0, none⟩), .pointer (some ⟨Bv, 0, none⟩)] W fun e W' => (∃ v, e = .returned v) ∧
      ((∃ ys, ys = parts c s0 ∧ J ys W') ∨ (∃ pre, pre <+: parts c s0 ∧ Jx pre W')) := by
  refine callsIn_of_wp Tryd.func71 rfl trivial ?_ rfl
  simp only [Tryd.ntmps71, List.size_toArray, List.length_cons, List.length_nil, Nat.reduceAdd, Nat.reduceSub, Array.replicate_succ, Array.replicate_zero, List.push_toArray, List.append_toArray, List.nil_append, List.cons_append]
  have hsz : (ByteArray.mk #[c]).size = 1 := rfl
  gi_wp2
  gi_loopw [7] (fun i wr => ∃ (pre : List (List UInt8)) (s : List UInt8), pre.length + s.length ≤ s0.length ∧ s.length ≤ s0.length ∧ parts c s0 = pre ++ parts c s ∧ J pre wr ∧ wr.cell? ⟨Bs, 0, none⟩ = some (.string ⟨s.toArray⟩) ∧ wr.frozen? ⟨Bs, 0, none⟩ = false ∧ wr.cell? ⟨Bp, 0, none⟩ = some (.string ⟨#[c]⟩) ∧ wr.cell? ⟨Bv, 0, none⟩ = some (.int .i64 0))
    (fun i wr => left wr Bs)
  case atStart => exact ⟨[], s0, by simp, Nat.le_refl _, rfl, h0, h2, hf, h1, h3⟩
  case round =>
    obtain ⟨pre, s, hp1, hp2, hh, hJp, k2, kf, k1, k3⟩ := hrel
    clear h1 h2 hf h3
    have hi := Tryd.strings_Index_one ⟨s.toArray⟩ c wr
    by_cases hneg : Lib.indexByte s c = -1
    · rw [parts_none hneg] at hh
      rw [hneg] at hi
      obtain ⟨fn, tmps, assign, body, hy, hR⟩ := hY pre s wr hJp (by omega)
      gi_wp2_with (refine ⟨trivial, ?_⟩; gi_at_call 62; refine (callsIn_wide.2 hi).mono ?_; rintro e w' ⟨rfl, rfl⟩)
      refine hR.mono ?_
      rintro e W3 (⟨rfl, hJ3, hk3⟩ | ⟨rfl, hJx3⟩)
      · gi_wp2
        go_end0
        exact ⟨⟨_, rfl⟩, .inl ⟨_, rfl, by rw [hh]; exact hJ3⟩⟩
      · gi_wp2
        go_end0
        exact ⟨⟨_, rfl⟩, .inr ⟨_, by rw [hh]; exact List.prefix_refl _, hJx3⟩⟩
    · obtain ⟨i, hi2⟩ : ∃ i : Nat, Lib.indexByte s c = i := ⟨(Lib.indexByte s c).toNat, by have := Lib.indexByte_ge s c; omega⟩
      obtain ⟨hil, hpe⟩ := parts_some hi2
      rw [hi2] at hi
      rw [hpe] at hh
      obtain ⟨fn, tmps, assign, body, hy, hR⟩ := hY pre (s.take i) wr hJp (by omega)
      rw [← bx_take s i] at hy
      have hw2 : wrap64 ((i : Int) + 1) = ((i + 1 : Nat) : Int) := by rw [IntWalk.wrap64_in _ (by omega)]; omega
      have hw : wrap64 ((i : Int) + 0) = (i : Int) := by rw [Int.add_zero]; exact IntWalk.wrap64_in _ (by omega)
      gi_wp2_with (refine ⟨trivial, ?_⟩; gi_at_call 62; refine (callsIn_wide.2 hi).mono ?_; rintro e w' ⟨rfl, rfl⟩)
      refine hR.mono ?_
      rintro e W3 (⟨rfl, hJ3, ⟨q1, ⟨q2, qf⟩, q3⟩⟩ | ⟨rfl, hJx3⟩)
      · have r1 := q1.trans k1
        have r2 := q2.trans k2
        have rf := qf.trans kf
        have r3 := q3.trans k3
        gi_wp2
        go_roundw
        case rel =>
          rw [bx_drop]
          exact ⟨pre ++ [s.take i], s.drop (i + 1), by simp; omega, by simp; omega, by rw [hh]; simp, hJs _ _ _ hJ3, World.cell?_setCell_same' _ _ _ (by rw [r2]; rfl), by rw [World.frozen?_setCell]; exact rf,
            by rw [wc_other (fun e => hps (by injection e with e _ _; exact e.symm))]; exact r1, by rw [wc_other (fun e => hvs (by injection e with e _ _; exact e.symm))]; exact r3⟩
        case measure =>
          rw [bx_drop, left_eq k2, left_eq (World.cell?_setCell_same' _ _ _ (by rw [r2]; rfl))]
          show (s.drop (i + 1)).toArray.size < s.toArray.size
          simp; omega
      · gi_wp2
        refine bodyPost_ret (results_none rfl _ _ _) rfl ?_
        exact ⟨⟨_, rfl⟩, .inr ⟨_, by rw [hh]; exact ⟨parts c (s.drop (i + 1)), by simp⟩, hJx3⟩⟩

theorem split_stops (n : Nat) (hn : 1 ≤ n) (Bp Bs Bv : Nat) (hps : Bp ≠ Bs) (hvs : Bv ≠ Bs) (c : UInt8) (s : List UInt8) (hlen : s.length < 4611686018427387904) (w : World) (b1 : Bp < w.heap.size) (b2 : Bs < w.heap.size) (b3 : Bv < w.heap.size)
    (h1 : w.cell? ⟨Bp, 0, none⟩ = some (.string ⟨#[c]⟩)) (h2 : w.cell? ⟨Bs, 0, none⟩ = some (.string ⟨s.toArray⟩)) (hf : w.frozen? ⟨Bs, 0, none⟩ = false) (h3 : w.cell? ⟨Bv, 0, none⟩ = some (.int .i64 0)) :
    SeqStopsB Fence.wide n Tryd.prog 71 #[.pointer (some ⟨Bp, 0, none⟩), .pointer (some ⟨Bs, 0, none⟩), .pointer (some ⟨Bv, 0, none⟩)] (fun x : List UInt8 => #[Value.string ⟨x.toArray⟩]) (Keeps3 Bp Bs Bv) Bs (fun ys => ys = parts c s) (fun pre => pre <+: parts c s) (s.length + 1) w := fun l J Jx W hW _ _ hJs hY h0 =>
  split_in n hn l Bp Bs Bv hps hvs c s hlen J Jx hJs hY W ((hW.cell (p := ⟨Bp, 0, none⟩) b1).trans h1) ((hW.cell (p := ⟨Bs, 0, none⟩) b2).trans h2) (by rw [← hf]; simp only [World.frozen?, hW.block Bs b2]) ((hW.cell (p := ⟨Bv, 0, none⟩) b3).trans h3) h0

/-- The maker of the iterator. -/
def W3 (c : UInt8) (s : List UInt8) (w : World) : World := ((w.alloc (.cells #[.string ⟨s.toArray⟩] 9)).alloc (.cells #[.string ⟨#[c]⟩] 9)).alloc (.cells #[.int .i64 0] 3)
theorem split_maker (n : Nat) (c : UInt8) (s : List UInt8) (w : World) :
    CallsIn Fence.wide n Tryd.prog 58 #[.string ⟨s.toArray⟩, .string ⟨#[c]⟩, .int .i64 0] w fun e w' => e = .returned (.func (.func 71) #[] #[.pointer (some ⟨w.heap.size + 1, 0, none⟩), .pointer (some ⟨w.heap.size, 0, none⟩), .pointer (some ⟨w.heap.size + 1 + 1, 0, none⟩)]) ∧ w' = W3 c s w := by
  refine callsIn_of_wp Tryd.func58 rfl trivial ?_ rfl
  simp only [Tryd.ntmps58, List.size_toArray, List.length_cons, List.length_nil, Nat.reduceAdd, Nat.reduceSub, Array.replicate_succ, Array.replicate_zero, List.push_toArray, List.append_toArray, List.nil_append, List.cons_append]
  gi_wp2
  go_ret
  exact ⟨rfl, rfl⟩
theorem splitSeq_maker (n : Nat) (hn : 1 ≤ n) (c : UInt8) (s : List UInt8) (w : World) :
    CallsIn Fence.wide n Tryd.prog 38 #[.string ⟨s.toArray⟩, .string ⟨#[c]⟩] w fun e w' => e = .returned (.func (.func 71) #[] #[.pointer (some ⟨w.heap.size + 1, 0, none⟩), .pointer (some ⟨w.heap.size, 0, none⟩), .pointer (some ⟨w.heap.size + 1 + 1, 0, none⟩)]) ∧ w' = W3 c s w := by
  refine callsIn_of_wp Tryd.func38 rfl trivial ?_ rfl
  simp only [Tryd.ntmps38, List.size_toArray, List.length_cons, List.length_nil, Nat.reduceAdd, Nat.reduceSub, Array.replicate_succ, Array.replicate_zero, List.push_toArray, List.append_toArray, List.nil_append, List.cons_append]
  gi_wp2_with (refine ⟨trivial, ?_⟩; gi_at_call 58; refine (split_maker _ c s _).mono ?_; rintro e w' ⟨rfl, rfl⟩)
  go_ret
  exact ⟨rfl, rfl⟩
end Go.Proofs.YtgmmcmfnniaekaaDoor.Sp
